import Derived.Test.YtmbofhpmockmbaaGreatDoorMC1
import Derived.Test.YtmbofhpmockmbaaGreatDoorMC5
namespace Go.Proofs.YtmbofhpmockmbaaGreatDoor
open Go.RowKit Go.Shelf
set_option maxHeartbeats 16000000
set_option maxRecDepth 100000
theorem ZY (w:World) (A:Obj):∃w1,w1=w.alloc A∧Below w.heap.size w w1∧w1.heap.size=w.heap.size+1∧w1.heap[w.heap.size]?=some A :=
 ⟨_,rfl,(Below.refl _ _).alloc (Nat.le_refl _) _,by simp,World.alloc_heap_new _ _⟩
theorem vu (w:World) (A B:Obj):∃w1,w1=(w.alloc A).alloc B∧Below w.heap.size w w1∧w1.heap.size=w.heap.size+2∧w1.heap[w.heap.size]?=some A∧w1.heap[w.heap.size+1]?=some B :=
 ⟨_,rfl,((Below.refl _ _).alloc (Nat.le_refl _) _).alloc (by simp) _,by simp,by rw [Below.heap_alloc _ _ _ (by simp)];exact World.alloc_heap_new _ _,by
  have:=World.alloc_heap_new (w.alloc A) B
  simpa using this⟩
theorem vv (k:Int) (g:Nat) (r:Wq) (w:World) (h:w.cell? ⟨g,0,none⟩=some (.int .i64 k)) :
  Calls Tryz.prog 51 #[wV r,.pointer (some ⟨g,0,none⟩)] w fun e w'=>e=.returned (.bool (decide (r.1=k)))∧Below w.heap.size w w':=by
 obtain ⟨a,b,c,d,e,f⟩:=r
 unfold wV
 have y:g<w.heap.size:=World.block_lt_of_cell? w _ h;have z:∀o,(w.alloc o).cell? ⟨g,0,none⟩=some (.int .i64 k):=fun o=>by rw [World.cell?_alloc_lt _ _ _ y];exact h
 clear h
 go_enter Tryz.func51,Tryz.ntmps51
 go_wp2
 go_ret
 exact ⟨by rw [show (a==k)=decide (a=k) by by_cases h:a=k <;> simp [h]];rfl,(Below.refl _ w).alloc (Nat.le_refl _) _⟩
theorem xt (k:Int) (w:World) :
  Calls Tryz.prog 24 #[.int .i64 k] w fun e w'=>e=.returned (wV (ofKind k))∧Below w.heap.size w w':=by
 have Z:∀(fn:Fn) (first cap:Array Value) (w:World),(Instr.makeFunc fn first cap).run Tryz.prog w=.ok (.func fn first cap) w:=fun _ _ _ _=>rfl
 obtain ⟨G,A,o,y,O,D⟩:=vu w (.cells #[.int .i64 k] 22 (0,0)) (.cells #[.int .i64 0,.string ⟨#[]⟩,.bool false,.int .i64 0,.bool false,.string ⟨#[]⟩] 55 (0,0));have U:=ub (fun r=>decide (r.1=k)) w.heap.size G fun r W hW=>vv k w.heap.size r W ((YW hW (by omega)).trans (zV O).1)
 have X:Hid (G.heap[w.heap.size+1]?=some (.cells #[.int .i64 0,.string ⟨#[]⟩,.bool false,.int .i64 0,.bool false,.string ⟨#[]⟩] 55 (0,0))∧Below w.heap.size w G∧G.heap.size=w.heap.size+2):=⟨D,o,y⟩;have E:=A.symm;clear A o y O D
 go_enter Tryz.func24,Tryz.ntmps24
 go_wp2_with fail
 refine U.mono ?_;clear U E;rintro e J ⟨rfl,z⟩;obtain ⟨D,o,y⟩:=X.out;have H:J.heap[w.heap.size+1]?=_:=(z.block _ (by omega)).trans D
 obtain ⟨e0,e1,e2,e3,e4,e5,ef⟩:=zu H;have T:Hid (findQ (fun r=>decide (r.1=k))=ofKind k):=rfl
 generalize findQ (fun r=>decide (r.1=k))=R at T ⊢
 obtain ⟨a,b,c,d,f,g⟩:=R;obtain ⟨K,M,V,L,I,Q,-⟩:=zu (ZW H (.int .i64 a) (.string (za b)) (.bool c) (.int .i64 d) (.bool f) (.string (za g)));have Y:Hid (Below w.heap.size w (yM J (w.heap.size+1) (.int .i64 a) (.string (za b)) (.bool c) (.int .i64 d) (.bool f) (.string (za g)))):=ZX (ZA o z) (by omega) _ _ _ _ _ _
 clear D o y H z
 unfold yM at K M V L I Q
 unfold wV
 simp only;go_wp2
 exact bodyPost_ret (v:=.agg #[.int .i64 a,.string (za b),.bool c,.int .i64 d,.bool f,.string (za g)]) (by simp [results,Tryz.results24,go_sem,K,M,V,L,I,Q]) rfl ⟨by rw [←T.out];rfl,Y.out⟩
theorem Yd {w w1 w2:World} {p:Nat} (h1:w.grownBy w1 (some p)) (h2:w1.grownBy w2 (some p)):w.grownBy w2 (some p) :=
 ⟨h2.os.trans h1.os,h2.tape.trans h1.tape,h2.output.trans h1.output,Nat.le_trans h1.size h2.size,fun k hk hne=>(h2.block k (Nat.lt_of_lt_of_le hk h1.size) hne).trans (h1.block k hk hne)⟩
theorem Xp {w w1:World} (p:Nat) (h:Below w.heap.size w w1):w.grownBy w1 (some p):=⟨h.os,h.tape,h.output,h.size,fun k hk _=>h.block k hk⟩
theorem ZZ {w w1:World} {p R:Nat} {o:Obj} (h:w.grownBy w1 (some p)) (hR:w.heap[R]?=some o) (hne:R≠p):w1.heap[R]?=some o :=
 (h.block R (Zl hR) (fun e=>hne (Option.some.inj e))).trans hR
theorem zh.loq {w:World} {p:Nat} {base:Option Addr} {cap:Nat} {bs:List UInt8} {at0 er:Nat} (h:zh w p base cap bs at0 er):p<w.heap.size:=World.block_lt_of_cell? w ⟨p,0,none⟩ h.made
def gI (bs:List UInt8) (at0 er:Nat):Int × Nat × Nat:=stepR 0 at0 er (zL (bs.drop at0))
def gT (bs:List UInt8) (at0 er:Nat):List UInt8 × Nat × Nat:=stepR [] at0 er (getT (bs.drop at0) 255)
def xu (a b:Int) (c:List UInt8 × Nat × Nat):(Int × Int × List UInt8) × Nat × Nat:=(if c.2.2=0 then (a,b,c.1) else (0,0,[]),c.2.1,c.2.2)
def yi (bs:List UInt8) (at0 er:Nat):(Int × Int × List UInt8) × Nat × Nat :=
 xu (gI bs at0 er).1 (gI bs (gI bs at0 er).2.1 (gI bs at0 er).2.2).1 (gT bs (gI bs (gI bs at0 er).2.1 (gI bs at0 er).2.2).2.1 (gI bs (gI bs at0 er).2.1 (gI bs at0 er).2.2).2.2)
theorem vw {w:World} {p:Nat} {base:Option Addr} {cap:Nat} {bs:List UInt8} {at0 er:Nat} (h:zh w p base cap bs at0 er) (hbase:∀a,base=some a→a.block<w.heap.size) :
  Calls Tryz.prog 17 #[.pointer (some ⟨p,0,none⟩)] w fun e w'=>e=.returned (ZH (yi bs at0 er).1.1 (yi bs at0 er).1.2.1 (yi bs at0 er).1.2.2)∧zh w' p base cap bs (yi bs at0 er).2.1 (yi bs at0 er).2.2∧w.grownBy w' (some p):=by
 obtain ⟨w1,O,G,ad,p1⟩:=ZY w (.cells #[.int .i64 0,.int .i64 0,.string ⟨#[]⟩] 24 (0,0));have hp:=h.loq;have c1:=VI (h.below G (Nat.le_refl _))
 have o:Hid (w.grownBy w1 (some p)∧w1.heap[w.heap.size]?=some (.cells #[.int .i64 0,.int .i64 0,.string ⟨#[]⟩] 24 (0,0))∧w.heap.size≠p∧∀a,base=some a→a.block≠w.heap.size) :=
  ⟨Xp p G,p1,by omega,fun a ha e=>by have:=hbase a ha;omega⟩
 have C2:Hid (∀(W:World) (x y:Nat),zh W p base cap bs x y→Calls Tryz.prog 23 #[.pointer (some ⟨p,0,none⟩)] W fun e w'=>e=.returned (.int .i64 (gI bs x y).1)∧zh w' p base cap bs (gI bs x y).2.1 (gI bs x y).2.2∧W.grownBy w' (some p)):=fun W x y h=>VI h
 have C3:Hid (∀(W:World) (x y:Nat),zh W p base cap bs x y→Calls Tryz.prog 42 #[.pointer (some ⟨p,0,none⟩),.int .i64 255] W fun e w'=>e=.returned (.string (za (gT bs x y).1))∧zh w' p base cap bs (gT bs x y).2.1 (gT bs x y).2.2∧W.grownBy w' (some p)):=fun W x y h=>uX 255 h
 have D:Hid (yi bs at0 er=xu (gI bs at0 er).1 (gI bs (gI bs at0 er).2.1 (gI bs at0 er).2.2).1 (gT bs (gI bs (gI bs at0 er).2.1 (gI bs at0 er).2.2).2.1 (gI bs (gI bs at0 er).2.1 (gI bs at0 er).2.2).2.2)):=rfl;have c1:=C2.out w1 at0 er (h.below G (Nat.le_refl _));have aa:=O.symm;clear h hbase G ad p1 O hp
 go_enter Tryz.func17,Tryz.ntmps17
 go_wp2_with fail
 refine c1.mono ?_;clear c1 aa;generalize gI bs at0 er=A at D ⊢;rintro e w2 ⟨rfl,Z,I⟩;have c2:=C2.out w2 _ _ Z;have ae:Hid (w.grownBy w2 (some p)):=Yd o.out.1 I;have ah:Hid (w2.heap[w.heap.size]?=some (.cells #[.int .i64 0,.int .i64 0,.string ⟨#[]⟩] 24 (0,0))):=ZZ I o.out.2.1 o.out.2.2.1;clear Z I;go_wp2_with fail
 refine c2.mono ?_;clear c2;generalize gI bs A.2.1 A.2.2=B at D ⊢;rintro e w3 ⟨rfl,ab,M⟩;have c3:=C3.out w3 _ _ ab;have ai:Hid (w.grownBy w3 (some p)):=Yd ae.out M;have ag:Hid (w3.heap[w.heap.size]?=some (.cells #[.int .i64 0,.int .i64 0,.string ⟨#[]⟩] 24 (0,0))):=ZZ M ah.out o.out.2.2.1;clear ab M;go_wp2_with fail
 refine c3.mono ?_;clear c3;generalize gT bs B.2.1 B.2.2=C at D ⊢;rintro e w4 ⟨rfl,L,K⟩;have aj:Hid (w.grownBy w4 (some p)):=Yd ai.out K;have R:Hid (w4.heap[w.heap.size]?=some (.cells #[.int .i64 0,.int .i64 0,.string ⟨#[]⟩] 24 (0,0))):=ZZ K ag.out o.out.2.2.1;obtain ⟨a,A2⟩:=A;obtain ⟨b,B2⟩:=B;obtain ⟨c,x,y⟩:=C;simp only at L ⊢;obtain ⟨z,T,H,ak,p5⟩:=ZY w4 (.cells #[.int .i64 a,.int .i64 b,.string (za c)] 24 (0,0));have E:=L.below H (Nat.le_refl _);have ce:=yk E;have X:z.heap[w.heap.size]?=some (.cells #[.int .i64 0,.int .i64 0,.string ⟨#[]⟩] 24 (0,0)):=(H.block _ (Zl R.out)).trans R.out;have af:Hid (w.grownBy z (some p)):=Yd aj.out (Xp p H);have an:Hid (zh z p base cap bs x y):=E;obtain ⟨d0,d1,d2,-⟩:=ze p5;obtain ⟨e0,e1,e2,ef⟩:=ze X;have U:w.heap.size≠p:=o.out.2.2.1
 have KR:∀u v t,zh (zM z w.heap.size u v t) p base cap bs x y∧w.grownBy (zM z w.heap.size u v t) (some p):=fun u v t=>by
  have hs:∀k,k≠w.heap.size→(zM z w.heap.size u v t).heap[k]?=z.heap[k]?:=fun k hk=>by
   unfold zM
   rw [Below.heap_setCell _ _ _ _ hk,Below.heap_setCell _ _ _ _ hk,Below.heap_setCell _ _ _ _ hk]
  have J:Below w.heap.size z (zM z w.heap.size u v t):=zN (Below.refl _ _) (Nat.le_refl _) _ _ _;have g5:=af.out;refine ⟨E.kept fun k hk hor=>hs k ?_,⟨J.os.trans g5.os,J.tape.trans g5.tape,J.output.trans g5.output,Nat.le_trans g5.size (by unfold zM;simp),fun k hk hn=>(hs k (by omega)).trans (g5.block k hk hn)⟩⟩
  rcases hor with rfl | ⟨q,hq,rfl⟩
  ·exact fun e=>U e.symm
  ·exact o.out.2.2.2 q hq
 have Q:Hid (∀u v t,zh (zM z w.heap.size u v t) p base cap bs x y∧w.grownBy (zM z w.heap.size u v t) (some p)):=KR;have al:=T.symm;clear K T H ak L E U KR p5
 by_cases hy:y=0
 ·subst hy
  have HQ:Hid (yi bs at0 er=((a,b,c),x,0)):=by
   show _=_
   rw [D.out];rfl
  obtain ⟨z0,V,Y,-⟩:=ze (zI X (.int .i64 a) (.int .i64 b) (.string (za c)))
  unfold zM at z0 V Y
  clear X;go_wp2_with fail
  refine ce.mono ?_;clear ce;rintro e w6 ⟨rfl,rfl⟩;go_wp2
  exact bodyPost_ret (v:=.agg #[.int .i64 a,.int .i64 b,.string (za c)]) (by simp [results,Tryz.results17,go_sem,z0,V,Y]) rfl ⟨by rw [HQ.out];rfl,by rw [HQ.out];exact Q.out _ _ _⟩
 ·have HQ:Hid (yi bs at0 er=((0,0,[]),x,y)):=by
   show _=_
   rw [D.out];unfold xu;rw [if_neg hy]
  have am:¬ (y:Int)=0:=by omega
  obtain ⟨z0,V,Y,-⟩:=ze (zI X (.int .i64 0) (.int .i64 0) (.string ⟨#[]⟩))
  unfold zM at z0 V Y
  clear X;go_wp2_with fail
  refine ce.mono ?_;clear ce;rintro e w6 ⟨rfl,rfl⟩;go_wp2
  exact bodyPost_ret (v:=.agg #[.int .i64 0,.int .i64 0,.string ⟨#[]⟩]) (by simp [results,Tryz.results17,go_sem,z0,V,Y]) rfl ⟨by rw [HQ.out];rfl,by rw [HQ.out];exact Q.out _ _ _⟩
def Yo (k n:Int) (s:List UInt8):List UInt8:=Zo k++Zo n++yQ (za s)
theorem Ug (v:Value) (bs:List UInt8) (k n:Int) (s:List UInt8) (hk:-9223372036854775808≤k∧k≤9223372036854775807) (hn:-9223372036854775808≤n∧n≤9223372036854775807) (w:World) (hv:zt w v bs) (hb:bs.length+s.length+100≤140737488355328) :
  Calls Tryz.prog 19 #[v,ZH k n s] w fun e w'=>∃v',e=.returned v'∧w'.ownsRow w.heap.size 5 1 v' (bs++Yo k n s).length (Lib.byteCells (bs++Yo k n s))∧Below w.heap.size w w':=by
 obtain ⟨T,I,E,V,W⟩:=ZY w (.cells #[.int .i64 k,.int .i64 n,.string (za s)] 24 (0,0));have M:zt T v bs:=zK hv E (Nat.le_refl _);have kl:=Zs hk.1 hk.2;have nl:=Zs hn.1 hn.2;have c1:=xi v bs k hk.1 hk.2 T M (by omega)
 have Y:Hid (T.heap[w.heap.size]?=some (.cells #[.int .i64 k,.int .i64 n,.string (za s)] 24 (0,0))∧Below w.heap.size w T):=⟨W,E⟩;obtain ⟨J,O,R,-⟩:=ze W
 unfold ZH
 have K:=I.symm;clear I E V M hv W
 go_enter Tryz.func19,Tryz.ntmps19
 go_wp2_with fail
 refine c1.mono ?_;clear c1 J O R K;rintro e U ⟨v2,rfl,y,D⟩;have p2:U.heap[w.heap.size]?=_:=(D.block _ (Zl Y.out.1)).trans Y.out.1;have c2:=xi v2 (bs++Zo k) n hn.1 hn.2 U (ZE y) (by simp only [List.length_append];omega)
 obtain ⟨J,O,R,-⟩:=ze p2;have G:Hid (U.heap[w.heap.size]?=some (.cells #[.int .i64 k,.int .i64 n,.string (za s)] 24 (0,0))∧Below w.heap.size w U):=⟨p2,ZA Y.out.2 D⟩;clear y D p2;go_wp2_with fail
 refine c2.mono ?_;clear c2 J O R;rintro e X ⟨v3,rfl,A,H⟩;have p3:X.heap[w.heap.size]?=_:=(H.block _ (Zl G.out.1)).trans G.out.1;have c3:=X5 v3 (bs++Zo k++Zo n) (za s) X (ZE A) (by simp only [List.length_append];rw [zZ];omega)
 obtain ⟨J,O,R,-⟩:=ze p3;have Q:Hid (Below w.heap.size w X):=ZA G.out.2 H;clear A H p3;go_wp2_with fail
 refine c3.mono ?_;clear c3 J O R;rintro e w4 ⟨v4,rfl,z,L⟩;have Z:Hid (Below w.heap.size w w4):=ZA Q.out L;have o:bs++Zo k++Zo n++yQ (za s)=bs++Yo k n s:=by unfold Yo;simp [List.append_assoc]
 have HO:Hid (w4.ownsRow w.heap.size 5 1 v4 (bs++Yo k n s).length (Lib.byteCells (bs++Yo k n s))):=by
  show World.ownsRow _ _ _ _ _ _ _
  rw [←o];exact xh z Q.out.size
 clear z L o;go_wp2
 go_ret
 exact ⟨v4,rfl,HO.out,Z.out⟩
theorem q9 (w:World) (A B C:Obj):Below w.heap.size w (((w.alloc A).alloc B).alloc C):=(((Below.refl _ w).alloc (Nat.le_refl _) _).alloc (by simp) _).alloc (by simp;omega) _
theorem qz (w:World) (A B C:Obj) (j:Nat) (v:Value):Below w.heap.size w ((((w.alloc A).alloc B).alloc C).setCell ⟨w.heap.size+1+1,j,none⟩ v):=(q9 w A B C).setCell (by simp;omega) _
theorem qA (w:World) (A B C:Obj) (j i:Nat) (v u:Value):Below w.heap.size w (((((w.alloc A).alloc B).alloc C).setCell ⟨w.heap.size+1+1,j,none⟩ v).setCell ⟨w.heap.size+1+1,i,none⟩ u):=(qz w A B C j v).setCell (by simp;omega) _
theorem Ve (r:Wq) (k n:Int) (s:List UInt8) (w:World) :
  Calls Tryz.prog 31 #[wV r,ZH k n s] w fun e w'=>e=.returned (.bool (decide (k=r.1∧(r.2.2.1=false→n=0)∧(r.2.2.2.2.1=false→s=[]))))∧Below w.heap.size w w':=by
 obtain ⟨a,b,c,d,f,g⟩:=r
 unfold wV ZH
 simp only
 cases c <;> cases f <;> (go_enter Tryz.func31,Tryz.ntmps31;go_wp2)
 all_goals
  go_ret
  exact ⟨by simp_all,by first | exact q9 _ _ _ _ | exact qz _ _ _ _ _ _ | exact qA _ _ _ _ _ _ _ _⟩
theorem Uh (r:Wq) (n:Int) (w:World) :
  Calls Tryz.prog 32 #[wV r,.int .i64 n] w fun e w'=>e=.returned (.bool (decide (r.2.2.1=true→r.2.2.2.1≤n∧n≤4294967296)))∧Below w.heap.size w w':=by
 obtain ⟨a,b,c,d,f,g⟩:=r
 unfold wV
 simp only
 cases c <;> (go_enter Tryz.func32,Tryz.ntmps32;go_wp2)
 all_goals
  go_ret
  refine ⟨?_,(Below.refl _ w).alloc (Nat.le_refl _) _⟩
  first | (simp_all;done) | (simp_all;omega)
end Go.Proofs.YtmbofhpmockmbaaGreatDoor
