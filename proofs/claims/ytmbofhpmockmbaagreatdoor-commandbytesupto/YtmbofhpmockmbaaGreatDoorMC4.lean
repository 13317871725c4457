import Derived.Test.YtmbofhpmockmbaaGreatDoorMC1
import Derived.Test.YtmbofhpmockmbaaGreatDoorWMath
namespace Go.Proofs.YtmbofhpmockmbaaGreatDoor
open Go.RowKit Go.Shelf
set_option maxHeartbeats 16000000
set_option maxRecDepth 100000
theorem yn (w:World) (A:Obj):∃w1,w1=w.alloc A∧Below w.heap.size w w1∧w1.heap.size=w.heap.size+1∧w1.heap[w.heap.size]?=some A :=
 ⟨_,rfl,(Below.refl _ _).alloc (Nat.le_refl _) _,by simp,World.alloc_heap_new _ _⟩
theorem XN (w:World) (A B:Obj):∃w1,w1=(w.alloc A).alloc B∧Below w.heap.size w w1∧w1.heap.size=w.heap.size+2∧w1.heap[w.heap.size]?=some A∧w1.heap[w.heap.size+1]?=some B :=
 ⟨_,rfl,((Below.refl _ _).alloc (Nat.le_refl _) _).alloc (by simp) _,by simp,by rw [Below.heap_alloc _ _ _ (by simp)];exact World.alloc_heap_new _ _,by
  have:=World.alloc_heap_new (w.alloc A) B
  simpa using this⟩
theorem XO (k:Int) (g:Nat) (r:Wq) (w:World) (h:w.cell? ⟨g,0,none⟩=some (.int .i64 k)) :
  Calls Tryz.prog 51 #[wV r,.pointer (some ⟨g,0,none⟩)] w fun e w'=>e=.returned (.bool (decide (r.1=k)))∧Below w.heap.size w w':=by
 obtain ⟨a,b,c,d,e,f⟩:=r
 unfold wV
 have y:g<w.heap.size:=World.block_lt_of_cell? w _ h;have z:∀o,(w.alloc o).cell? ⟨g,0,none⟩=some (.int .i64 k):=fun o=>by rw [World.cell?_alloc_lt _ _ _ y];exact h
 clear h
 go_enter Tryz.func51,Tryz.ntmps51
 go_wp2
 go_ret
 exact ⟨by rw [show (a==k)=decide (a=k) by by_cases h:a=k <;> simp [h]];rfl,(Below.refl _ w).alloc (Nat.le_refl _) _⟩
theorem YX (k:Int) (w:World) :
  Calls Tryz.prog 24 #[.int .i64 k] w fun e w'=>e=.returned (wV (ofKind k))∧Below w.heap.size w w':=by
 have X:∀(fn:Fn) (first cap:Array Value) (w:World),(Instr.makeFunc fn first cap).run Tryz.prog w=.ok (.func fn first cap) w:=fun _ _ _ _=>rfl
 obtain ⟨G,D,o,y,I,E⟩:=XN w (.cells #[.int .i64 k] 22 (0,0)) (.cells #[.int .i64 0,.string ⟨#[]⟩,.bool false,.int .i64 0,.bool false,.string ⟨#[]⟩] 55 (0,0));have L:=VB (fun r=>decide (r.1=k)) w.heap.size G fun r W hW=>XO k w.heap.size r W ((Yx hW (by omega)).trans (zN I).1)
 have Y:Hid (G.heap[w.heap.size+1]?=some (.cells #[.int .i64 0,.string ⟨#[]⟩,.bool false,.int .i64 0,.bool false,.string ⟨#[]⟩] 55 (0,0))∧Below w.heap.size w G∧G.heap.size=w.heap.size+2):=⟨E,o,y⟩;have A:=D.symm;clear D o y I E
 go_enter Tryz.func24,Tryz.ntmps24
 go_wp2_with fail
 refine L.mono ?_;clear L A;rintro e J ⟨rfl,z⟩;obtain ⟨E,o,y⟩:=Y.out;have H:J.heap[w.heap.size+1]?=_:=(z.block _ (by omega)).trans E
 obtain ⟨Z,e1,e2,e3,e4,e5,ef⟩:=zr H;have M:Hid (findQ (fun r=>decide (r.1=k))=ofKind k):=rfl
 generalize findQ (fun r=>decide (r.1=k))=R at M ⊢
 obtain ⟨a,b,c,d,f,g⟩:=R;obtain ⟨N,U,Q,T,K,O,-⟩:=zr (ZP H (.int .i64 a) (.string (za b)) (.bool c) (.int .i64 d) (.bool f) (.string (za g)));have V:Hid (Below w.heap.size w (yD J (w.heap.size+1) (.int .i64 a) (.string (za b)) (.bool c) (.int .i64 d) (.bool f) (.string (za g)))):=ZQ (Zw o z) (by omega) _ _ _ _ _ _
 clear E o y H z
 unfold yD at N U Q T K O
 unfold wV
 simp only;go_wp2
 exact bodyPost_ret (v:=.agg #[.int .i64 a,.string (za b),.bool c,.int .i64 d,.bool f,.string (za g)]) (by simp [results,Tryz.results24,go_sem,N,U,Q,T,K,O]) rfl ⟨by rw [←M.out];rfl,V.out⟩
theorem yT {w w1 w2:World} {p:Nat} (h1:w.grownBy w1 (some p)) (h2:w1.grownBy w2 (some p)):w.grownBy w2 (some p) :=
 ⟨h2.os.trans h1.os,h2.tape.trans h1.tape,h2.output.trans h1.output,Nat.le_trans h1.size h2.size,fun k hk hne=>(h2.block k (Nat.lt_of_lt_of_le hk h1.size) hne).trans (h1.block k hk hne)⟩
theorem xN {w w1:World} (p:Nat) (h:Below w.heap.size w w1):w.grownBy w1 (some p):=⟨h.os,h.tape,h.output,h.size,fun k hk _=>h.block k hk⟩
theorem ZA {w w1:World} {p R:Nat} {o:Obj} (h:w.grownBy w1 (some p)) (hR:w.heap[R]?=some o) (hne:R≠p):w1.heap[R]?=some o :=
 (h.block R (ZW hR) (fun e=>hne (Option.some.inj e))).trans hR
theorem zg.loq {w:World} {p:Nat} {base:Option Addr} {cap:Nat} {bs:List UInt8} {at0 er:Nat} (h:zg w p base cap bs at0 er):p<w.heap.size:=World.block_lt_of_cell? w ⟨p,0,none⟩ h.made
def gI (bs:List UInt8) (at0 er:Nat):Int × Nat × Nat:=stepR 0 at0 er (z6 (bs.drop at0))
def gT (bs:List UInt8) (at0 er:Nat):List UInt8 × Nat × Nat:=stepR [] at0 er (getT (bs.drop at0) 255)
def vZ (a b:Int) (c:List UInt8 × Nat × Nat):(Int × Int × List UInt8) × Nat × Nat:=(if c.2.2=0 then (a,b,c.1) else (0,0,[]),c.2.1,c.2.2)
def y6 (bs:List UInt8) (at0 er:Nat):(Int × Int × List UInt8) × Nat × Nat :=
 vZ (gI bs at0 er).1 (gI bs (gI bs at0 er).2.1 (gI bs at0 er).2.2).1 (gT bs (gI bs (gI bs at0 er).2.1 (gI bs at0 er).2.2).2.1 (gI bs (gI bs at0 er).2.1 (gI bs at0 er).2.2).2.2)
theorem Yf {w:World} {p:Nat} {base:Option Addr} {cap:Nat} {bs:List UInt8} {at0 er:Nat} (h:zg w p base cap bs at0 er) (hbase:∀a,base=some a→a.block<w.heap.size) :
  Calls Tryz.prog 17 #[.pointer (some ⟨p,0,none⟩)] w fun e w'=>e=.returned (Zz (y6 bs at0 er).1.1 (y6 bs at0 er).1.2.1 (y6 bs at0 er).1.2.2)∧zg w' p base cap bs (y6 bs at0 er).2.1 (y6 bs at0 er).2.2∧w.grownBy w' (some p):=by
 obtain ⟨w1,U,G,al,p1⟩:=yn w (.cells #[.int .i64 0,.int .i64 0,.string ⟨#[]⟩] 24 (0,0));have hp:=h.loq;have c1:=vY (h.below G (Nat.le_refl _))
 have o:Hid (w.grownBy w1 (some p)∧w1.heap[w.heap.size]?=some (.cells #[.int .i64 0,.int .i64 0,.string ⟨#[]⟩] 24 (0,0))∧w.heap.size≠p∧∀a,base=some a→a.block≠w.heap.size) :=
  ⟨xN p G,p1,by omega,fun a ha e=>by have:=hbase a ha;omega⟩
 have C2:Hid (∀(W:World) (x y:Nat),zg W p base cap bs x y→Calls Tryz.prog 23 #[.pointer (some ⟨p,0,none⟩)] W fun e w'=>e=.returned (.int .i64 (gI bs x y).1)∧zg w' p base cap bs (gI bs x y).2.1 (gI bs x y).2.2∧W.grownBy w' (some p)):=fun W x y h=>vY h
 have C3:Hid (∀(W:World) (x y:Nat),zg W p base cap bs x y→Calls Tryz.prog 42 #[.pointer (some ⟨p,0,none⟩),.int .i64 255] W fun e w'=>e=.returned (.string (za (gT bs x y).1))∧zg w' p base cap bs (gT bs x y).2.1 (gT bs x y).2.2∧W.grownBy w' (some p)):=fun W x y h=>uq 255 h
 have z:Hid (y6 bs at0 er=vZ (gI bs at0 er).1 (gI bs (gI bs at0 er).2.1 (gI bs at0 er).2.2).1 (gT bs (gI bs (gI bs at0 er).2.1 (gI bs at0 er).2.2).2.1 (gI bs (gI bs at0 er).2.1 (gI bs at0 er).2.2).2.2)):=rfl;have c1:=C2.out w1 at0 er (h.below G (Nat.le_refl _));have ad:=U.symm;clear h hbase G al p1 U hp
 go_enter Tryz.func17,Tryz.ntmps17
 go_wp2_with fail
 refine c1.mono ?_;clear c1 ad;generalize gI bs at0 er=A at z ⊢;rintro e w2 ⟨rfl,O,M⟩;have c2:=C2.out w2 _ _ O;have ai:Hid (w.grownBy w2 (some p)):=yT o.out.1 M;have ak:Hid (w2.heap[w.heap.size]?=some (.cells #[.int .i64 0,.int .i64 0,.string ⟨#[]⟩] 24 (0,0))):=ZA M o.out.2.1 o.out.2.2.1;clear O M;go_wp2_with fail
 refine c2.mono ?_;clear c2;generalize gI bs A.2.1 A.2.2=B at z ⊢;rintro e w3 ⟨rfl,ab,L⟩;have c3:=C3.out w3 _ _ ab;have ag:Hid (w.grownBy w3 (some p)):=yT ai.out L;have aj:Hid (w3.heap[w.heap.size]?=some (.cells #[.int .i64 0,.int .i64 0,.string ⟨#[]⟩] 24 (0,0))):=ZA L ak.out o.out.2.2.1;clear ab L;go_wp2_with fail
 refine c3.mono ?_;clear c3;generalize gT bs B.2.1 B.2.2=C at z ⊢;rintro e w4 ⟨rfl,I,J⟩;have ae:Hid (w.grownBy w4 (some p)):=yT ag.out J;have T:Hid (w4.heap[w.heap.size]?=some (.cells #[.int .i64 0,.int .i64 0,.string ⟨#[]⟩] 24 (0,0))):=ZA J aj.out o.out.2.2.1;obtain ⟨a,A2⟩:=A;obtain ⟨b,B2⟩:=B;obtain ⟨c,x,y⟩:=C;simp only at I ⊢;obtain ⟨D,Y,E,ah,p5⟩:=yn w4 (.cells #[.int .i64 a,.int .i64 b,.string (za c)] 24 (0,0));have H:=I.below E (Nat.le_refl _);have ce:=ZY H;have R:D.heap[w.heap.size]?=some (.cells #[.int .i64 0,.int .i64 0,.string ⟨#[]⟩] 24 (0,0)):=(E.block _ (ZW T.out)).trans T.out;have af:Hid (w.grownBy D (some p)):=yT ae.out (xN p E);have an:Hid (zg D p base cap bs x y):=H;obtain ⟨d0,d1,d2,-⟩:=zh p5;obtain ⟨e0,e1,e2,ef⟩:=zh R;have aa:w.heap.size≠p:=o.out.2.2.1
 have KR:∀u v t,zg (ZI D w.heap.size u v t) p base cap bs x y∧w.grownBy (ZI D w.heap.size u v t) (some p):=fun u v t=>by
  have hs:∀k,k≠w.heap.size→(ZI D w.heap.size u v t).heap[k]?=D.heap[k]?:=fun k hk=>by
   unfold ZI
   rw [Below.heap_setCell _ _ _ _ hk,Below.heap_setCell _ _ _ _ hk,Below.heap_setCell _ _ _ _ hk]
  have K:Below w.heap.size D (ZI D w.heap.size u v t):=yd (Below.refl _ _) (Nat.le_refl _) _ _ _;have N:=af.out;refine ⟨H.kept fun k hk hor=>hs k ?_,⟨K.os.trans N.os,K.tape.trans N.tape,K.output.trans N.output,Nat.le_trans N.size (by unfold ZI;simp),fun k hk hn=>(hs k (by omega)).trans (N.block k hk hn)⟩⟩
  rcases hor with rfl | ⟨q,hq,rfl⟩
  ·exact fun e=>aa e.symm
  ·exact o.out.2.2.2 q hq
 have Z:Hid (∀u v t,zg (ZI D w.heap.size u v t) p base cap bs x y∧w.grownBy (ZI D w.heap.size u v t) (some p)):=KR;have am:=Y.symm;clear J Y E ah I H aa KR p5
 by_cases hy:y=0
 ·subst hy
  have HQ:Hid (y6 bs at0 er=((a,b,c),x,0)):=by
   show _=_
   rw [z.out];rfl
  obtain ⟨Q,X,V,-⟩:=zh (ZO R (.int .i64 a) (.int .i64 b) (.string (za c)))
  unfold ZI at Q X V
  clear R;go_wp2_with fail
  refine ce.mono ?_;clear ce;rintro e w6 ⟨rfl,rfl⟩;go_wp2
  exact bodyPost_ret (v:=.agg #[.int .i64 a,.int .i64 b,.string (za c)]) (by simp [results,Tryz.results17,go_sem,Q,X,V]) rfl ⟨by rw [HQ.out];rfl,by rw [HQ.out];exact Z.out _ _ _⟩
 ·have HQ:Hid (y6 bs at0 er=((0,0,[]),x,y)):=by
   show _=_
   rw [z.out];unfold vZ;rw [if_neg hy]
  have ao:¬ (y:Int)=0:=by omega
  obtain ⟨Q,X,V,-⟩:=zh (ZO R (.int .i64 0) (.int .i64 0) (.string ⟨#[]⟩))
  unfold ZI at Q X V
  clear R;go_wp2_with fail
  refine ce.mono ?_;clear ce;rintro e w6 ⟨rfl,rfl⟩;go_wp2
  exact bodyPost_ret (v:=.agg #[.int .i64 0,.int .i64 0,.string ⟨#[]⟩]) (by simp [results,Tryz.results17,go_sem,Q,X,V]) rfl ⟨by rw [HQ.out];rfl,by rw [HQ.out];exact Z.out _ _ _⟩
def Zk (k n:Int) (s:List UInt8):List UInt8:=zE k++zE n++Zq (za s)
theorem YY (v:Value) (bs:List UInt8) (k n:Int) (s:List UInt8) (hk:-9223372036854775808≤k∧k≤9223372036854775807) (hn:-9223372036854775808≤n∧n≤9223372036854775807) (w:World) (hv:zu w v bs) (hb:bs.length+s.length+100≤140737488355328) :
  Calls Tryz.prog 19 #[v,Zz k n s] w fun e w'=>∃v',e=.returned v'∧w'.ownsRow w.heap.size 5 1 v' (bs++Zk k n s).length (Lib.byteCells (bs++Zk k n s))∧Below w.heap.size w w':=by
 obtain ⟨R,K,D,X,U⟩:=yn w (.cells #[.int .i64 k,.int .i64 n,.string (za s)] 24 (0,0));have I:zu R v bs:=zO hv D (Nat.le_refl _);have kl:=Z6 hk.1 hk.2;have nl:=Z6 hn.1 hn.2;have c1:=YP v bs k hk.1 hk.2 R I (by omega)
 have Y:Hid (R.heap[w.heap.size]?=some (.cells #[.int .i64 k,.int .i64 n,.string (za s)] 24 (0,0))∧Below w.heap.size w R):=⟨U,D⟩;obtain ⟨J,L,M,-⟩:=zh U
 unfold Zz
 have O:=K.symm;clear K D X I hv U
 go_enter Tryz.func19,Tryz.ntmps19
 go_wp2_with fail
 refine c1.mono ?_;clear c1 J L M O;rintro e T ⟨v2,rfl,A,E⟩;have Z:T.heap[w.heap.size]?=_:=(E.block _ (ZW Y.out.1)).trans Y.out.1;have c2:=YP v2 (bs++zE k) n hn.1 hn.2 T (zT A) (by simp only [List.length_append];omega)
 obtain ⟨J,L,M,-⟩:=zh Z;have H:Hid (T.heap[w.heap.size]?=some (.cells #[.int .i64 k,.int .i64 n,.string (za s)] 24 (0,0))∧Below w.heap.size w T):=⟨Z,Zw Y.out.2 E⟩;clear A E Z;go_wp2_with fail
 refine c2.mono ?_;clear c2 J L M;rintro e W ⟨v3,rfl,y,G⟩;have p3:W.heap[w.heap.size]?=_:=(G.block _ (ZW H.out.1)).trans H.out.1;have c3:=Xx v3 (bs++zE k++zE n) (za s) W (zT y) (by simp only [List.length_append];rw [zS];omega)
 obtain ⟨J,L,M,-⟩:=zh p3;have Q:Hid (Below w.heap.size w W):=Zw H.out.2 G;clear y G p3;go_wp2_with fail
 refine c3.mono ?_;clear c3 J L M;rintro e w4 ⟨v4,rfl,z,N⟩;have V:Hid (Below w.heap.size w w4):=Zw Q.out N;have o:bs++zE k++zE n++Zq (za s)=bs++Zk k n s:=by unfold Zk;simp [List.append_assoc]
 have HO:Hid (w4.ownsRow w.heap.size 5 1 v4 (bs++Zk k n s).length (Lib.byteCells (bs++Zk k n s))):=by
  show World.ownsRow _ _ _ _ _ _ _
  rw [←o];exact YO z Q.out.size
 clear z N o;go_wp2
 go_ret
 exact ⟨v4,rfl,HO.out,V.out⟩
theorem qq (w:World) (A B C:Obj):Below w.heap.size w (((w.alloc A).alloc B).alloc C):=(((Below.refl _ w).alloc (Nat.le_refl _) _).alloc (by simp) _).alloc (by simp;omega) _
theorem UV (w:World) (A B C:Obj) (j:Nat) (v:Value):Below w.heap.size w ((((w.alloc A).alloc B).alloc C).setCell ⟨w.heap.size+1+1,j,none⟩ v):=(qq w A B C).setCell (by simp;omega) _
theorem UW (w:World) (A B C:Obj) (j i:Nat) (v u:Value):Below w.heap.size w (((((w.alloc A).alloc B).alloc C).setCell ⟨w.heap.size+1+1,j,none⟩ v).setCell ⟨w.heap.size+1+1,i,none⟩ u):=(UV w A B C j v).setCell (by simp;omega) _
theorem vu (r:Wq) (k n:Int) (s:List UInt8) (w:World) :
  Calls Tryz.prog 31 #[wV r,Zz k n s] w fun e w'=>e=.returned (.bool (decide (k=r.1∧(r.2.2.1=false→n=0)∧(r.2.2.2.2.1=false→s=[]))))∧Below w.heap.size w w':=by
 obtain ⟨a,b,c,d,f,g⟩:=r
 unfold wV Zz
 simp only
 cases c <;> cases f <;> (go_enter Tryz.func31,Tryz.ntmps31;go_wp2)
 all_goals
  go_ret
  exact ⟨by simp_all,by first | exact qq _ _ _ _ | exact UV _ _ _ _ _ _ | exact UW _ _ _ _ _ _ _ _⟩
theorem uz (r:Wq) (n:Int) (w:World) :
  Calls Tryz.prog 32 #[wV r,.int .i64 n] w fun e w'=>e=.returned (.bool (decide (r.2.2.1=true→r.2.2.2.1≤n∧n≤4294967296)))∧Below w.heap.size w w':=by
 obtain ⟨a,b,c,d,f,g⟩:=r
 unfold wV
 simp only
 cases c <;> (go_enter Tryz.func32,Tryz.ntmps32;go_wp2)
 all_goals
  go_ret
  refine ⟨?_,(Below.refl _ w).alloc (Nat.le_refl _) _⟩
  first | (simp_all;done) | (simp_all;omega)
end Go.Proofs.YtmbofhpmockmbaaGreatDoor
