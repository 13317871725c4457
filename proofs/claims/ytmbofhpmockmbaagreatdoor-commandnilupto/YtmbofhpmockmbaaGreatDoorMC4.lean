import Derived.Test.YtmbofhpmockmbaaGreatDoorMC1
import Derived.Test.YtmbofhpmockmbaaGreatDoorWMath
namespace Go.Proofs.YtmbofhpmockmbaaGreatDoor
open Go.RowKit Go.Shelf
set_option maxHeartbeats 16000000
set_option maxRecDepth 100000
theorem yd (w:World) (A:Obj):∃w1,w1=w.alloc A∧Below w.heap.size w w1∧w1.heap.size=w.heap.size+1∧w1.heap[w.heap.size]?=some A :=
 ⟨_,rfl,(Below.refl _ _).alloc (Nat.le_refl _) _,by simp,World.alloc_heap_new _ _⟩
theorem vB (w:World) (A B:Obj):∃w1,w1=(w.alloc A).alloc B∧Below w.heap.size w w1∧w1.heap.size=w.heap.size+2∧w1.heap[w.heap.size]?=some A∧w1.heap[w.heap.size+1]?=some B :=
 ⟨_,rfl,((Below.refl _ _).alloc (Nat.le_refl _) _).alloc (by simp) _,by simp,by rw [Below.heap_alloc _ _ _ (by simp)];exact World.alloc_heap_new _ _,by
  have:=World.alloc_heap_new (w.alloc A) B
  simpa using this⟩
theorem Xu (k:Int) (g:Nat) (r:Wq) (w:World) (h:w.cell? ⟨g,0,none⟩=some (.int .i64 k)) :
  Calls Tryz.prog 51 #[wV r,.pointer (some ⟨g,0,none⟩)] w fun e w'=>e=.returned (.bool (decide (r.1=k)))∧Below w.heap.size w w':=by
 obtain ⟨a,b,c,d,e,f⟩:=r
 unfold wV
 have y:g<w.heap.size:=World.block_lt_of_cell? w _ h;have z:∀o,(w.alloc o).cell? ⟨g,0,none⟩=some (.int .i64 k):=fun o=>by rw [World.cell?_alloc_lt _ _ _ y];exact h
 clear h
 go_enter Tryz.func51,Tryz.ntmps51
 go_wp2
 go_ret
 exact ⟨by rw [show (a==k)=decide (a=k) by by_cases h:a=k <;> simp [h]];rfl,(Below.refl _ w).alloc (Nat.le_refl _) _⟩
theorem YF (k:Int) (w:World) :
  Calls Tryz.prog 24 #[.int .i64 k] w fun e w'=>e=.returned (wV (ofKind k))∧Below w.heap.size w w':=by
 have X:∀(fn:Fn) (first cap:Array Value) (w:World),(Instr.makeFunc fn first cap).run Tryz.prog w=.ok (.func fn first cap) w:=fun _ _ _ _=>rfl
 obtain ⟨G,A,o,y,K,E⟩:=vB w (.cells #[.int .i64 k] 22 (0,0)) (.cells #[.int .i64 0,.string ⟨#[]⟩,.bool false,.int .i64 0,.bool false,.string ⟨#[]⟩] 55 (0,0));have M:=Vb (fun r=>decide (r.1=k)) w.heap.size G fun r W hW=>Xu k w.heap.size r W ((Yg hW (by omega)).trans (zL K).1)
 have U:Hid (G.heap[w.heap.size+1]?=some (.cells #[.int .i64 0,.string ⟨#[]⟩,.bool false,.int .i64 0,.bool false,.string ⟨#[]⟩] 55 (0,0))∧Below w.heap.size w G∧G.heap.size=w.heap.size+2):=⟨E,o,y⟩;have D:=A.symm;clear A o y K E
 go_enter Tryz.func24,Tryz.ntmps24
 go_wp2_with fail
 refine M.mono ?_;clear M D;rintro e I ⟨rfl,z⟩;obtain ⟨E,o,y⟩:=U.out;have H:I.heap[w.heap.size+1]?=_:=(z.block _ (by omega)).trans E
 obtain ⟨e0,e1,Z,e3,e4,Y,ef⟩:=zr H;have O:Hid (findQ (fun r=>decide (r.1=k))=ofKind k):=rfl
 generalize findQ (fun r=>decide (r.1=k))=R at O ⊢
 obtain ⟨a,b,c,d,f,g⟩:=R;obtain ⟨T,S,N,Q,J,L,-⟩:=zr (ZK H (.int .i64 a) (.string (za b)) (.bool c) (.int .i64 d) (.bool f) (.string (za g)));have V:Hid (Below w.heap.size w (yt I (w.heap.size+1) (.int .i64 a) (.string (za b)) (.bool c) (.int .i64 d) (.bool f) (.string (za g)))):=ZM (ZC o z) (by omega) _ _ _ _ _ _
 clear E o y H z
 unfold yt at T S N Q J L
 unfold wV
 simp only;go_wp2
 exact bodyPost_ret (v:=.agg #[.int .i64 a,.string (za b),.bool c,.int .i64 d,.bool f,.string (za g)]) (by simp [results,Tryz.results24,go_sem,T,S,N,Q,J,L]) rfl ⟨by rw [←O.out];rfl,V.out⟩
theorem yH {w w1 w2:World} {p:Nat} (h1:w.grownBy w1 (some p)) (h2:w1.grownBy w2 (some p)):w.grownBy w2 (some p) :=
 ⟨h2.os.trans h1.os,h2.tape.trans h1.tape,h2.output.trans h1.output,Nat.le_trans h1.size h2.size,fun k hk hne=>(h2.block k (Nat.lt_of_lt_of_le hk h1.size) hne).trans (h1.block k hk hne)⟩
theorem xt {w w1:World} (p:Nat) (h:Below w.heap.size w w1):w.grownBy w1 (some p):=⟨h.os,h.tape,h.output,h.size,fun k hk _=>h.block k hk⟩
theorem yC {w w1:World} {p R:Nat} {o:Obj} (h:w.grownBy w1 (some p)) (hR:w.heap[R]?=some o) (hne:R≠p):w1.heap[R]?=some o :=
 (h.block R (yj hR) (fun e=>hne (Option.some.inj e))).trans hR
theorem zf.loq {w:World} {p:Nat} {base:Option Addr} {cap:Nat} {bs:List UInt8} {at0 er:Nat} (h:zf w p base cap bs at0 er):p<w.heap.size:=World.block_lt_of_cell? w ⟨p,0,none⟩ h.made
def gI (bs:List UInt8) (at0 er:Nat):Int × Nat × Nat:=stepR 0 at0 er (zS (bs.drop at0))
def gT (bs:List UInt8) (at0 er:Nat):List UInt8 × Nat × Nat:=stepR [] at0 er (getT (bs.drop at0) 255)
def V4 (a b:Int) (c:List UInt8 × Nat × Nat):(Int × Int × List UInt8) × Nat × Nat:=(if c.2.2=0 then (a,b,c.1) else (0,0,[]),c.2.1,c.2.2)
def xP (bs:List UInt8) (at0 er:Nat):(Int × Int × List UInt8) × Nat × Nat :=
 V4 (gI bs at0 er).1 (gI bs (gI bs at0 er).2.1 (gI bs at0 er).2.2).1 (gT bs (gI bs (gI bs at0 er).2.1 (gI bs at0 er).2.2).2.1 (gI bs (gI bs at0 er).2.1 (gI bs at0 er).2.2).2.2)
theorem V5 {w:World} {p:Nat} {base:Option Addr} {cap:Nat} {bs:List UInt8} {at0 er:Nat} (h:zf w p base cap bs at0 er) (hbase:∀a,base=some a→a.block<w.heap.size) :
  Calls Tryz.prog 17 #[.pointer (some ⟨p,0,none⟩)] w fun e w'=>e=.returned (ZJ (xP bs at0 er).1.1 (xP bs at0 er).1.2.1 (xP bs at0 er).1.2.2)∧zf w' p base cap bs (xP bs at0 er).2.1 (xP bs at0 er).2.2∧w.grownBy w' (some p):=by
 obtain ⟨w1,N,E,af,p1⟩:=yd w (.cells #[.int .i64 0,.int .i64 0,.string ⟨#[]⟩] 24 (0,0));have hp:=h.loq;have c1:=xN (h.below E (Nat.le_refl _))
 have o:Hid (w.grownBy w1 (some p)∧w1.heap[w.heap.size]?=some (.cells #[.int .i64 0,.int .i64 0,.string ⟨#[]⟩] 24 (0,0))∧w.heap.size≠p∧∀a,base=some a→a.block≠w.heap.size) :=
  ⟨xt p E,p1,by omega,fun a ha e=>by have:=hbase a ha;omega⟩
 have C2:Hid (∀(W:World) (x y:Nat),zf W p base cap bs x y→Calls Tryz.prog 23 #[.pointer (some ⟨p,0,none⟩)] W fun e w'=>e=.returned (.int .i64 (gI bs x y).1)∧zf w' p base cap bs (gI bs x y).2.1 (gI bs x y).2.2∧W.grownBy w' (some p)):=fun W x y h=>xN h
 have C3:Hid (∀(W:World) (x y:Nat),zf W p base cap bs x y→Calls Tryz.prog 42 #[.pointer (some ⟨p,0,none⟩),.int .i64 255] W fun e w'=>e=.returned (.string (za (gT bs x y).1))∧zf w' p base cap bs (gT bs x y).2.1 (gT bs x y).2.2∧W.grownBy w' (some p)):=fun W x y h=>VX 255 h
 have D:Hid (xP bs at0 er=V4 (gI bs at0 er).1 (gI bs (gI bs at0 er).2.1 (gI bs at0 er).2.2).1 (gT bs (gI bs (gI bs at0 er).2.1 (gI bs at0 er).2.2).2.1 (gI bs (gI bs at0 er).2.1 (gI bs at0 er).2.2).2.2)):=rfl;have c1:=C2.out w1 at0 er (h.below E (Nat.le_refl _));have O:=N.symm;clear h hbase E af p1 N hp
 go_enter Tryz.func17,Tryz.ntmps17
 go_wp2_with fail
 refine c1.mono ?_;clear c1 O;generalize gI bs at0 er=A at D ⊢;rintro e w2 ⟨rfl,V,M⟩;have c2:=C2.out w2 _ _ V;have ag:Hid (w.grownBy w2 (some p)):=yH o.out.1 M;have ak:Hid (w2.heap[w.heap.size]?=some (.cells #[.int .i64 0,.int .i64 0,.string ⟨#[]⟩] 24 (0,0))):=yC M o.out.2.1 o.out.2.2.1;clear V M;go_wp2_with fail
 refine c2.mono ?_;clear c2;generalize gI bs A.2.1 A.2.2=B at D ⊢;rintro e w3 ⟨rfl,Y,K⟩;have c3:=C3.out w3 _ _ Y;have ad:Hid (w.grownBy w3 (some p)):=yH ag.out K;have ae:Hid (w3.heap[w.heap.size]?=some (.cells #[.int .i64 0,.int .i64 0,.string ⟨#[]⟩] 24 (0,0))):=yC K ak.out o.out.2.2.1;clear Y K;go_wp2_with fail
 refine c3.mono ?_;clear c3;generalize gT bs B.2.1 B.2.2=C at D ⊢;rintro e w4 ⟨rfl,L,J⟩;have ah:Hid (w.grownBy w4 (some p)):=yH ad.out J;have ab:Hid (w4.heap[w.heap.size]?=some (.cells #[.int .i64 0,.int .i64 0,.string ⟨#[]⟩] 24 (0,0))):=yC J ae.out o.out.2.2.1;obtain ⟨a,A2⟩:=A;obtain ⟨b,B2⟩:=B;obtain ⟨c,x,y⟩:=C;simp only at L ⊢;obtain ⟨z,Q,G,ai,p5⟩:=yd w4 (.cells #[.int .i64 a,.int .i64 b,.string (za c)] 24 (0,0));have H:=L.below G (Nat.le_refl _);have ce:=Z4 H;have R:z.heap[w.heap.size]?=some (.cells #[.int .i64 0,.int .i64 0,.string ⟨#[]⟩] 24 (0,0)):=(G.block _ (yj ab.out)).trans ab.out;have aj:Hid (w.grownBy z (some p)):=yH ah.out (xt p G);have an:Hid (zf z p base cap bs x y):=H;obtain ⟨d0,d1,d2,-⟩:=zl p5;obtain ⟨e0,e1,e2,ef⟩:=zl R;have aa:w.heap.size≠p:=o.out.2.2.1
 have KR:∀u v t,zf (Zs z w.heap.size u v t) p base cap bs x y∧w.grownBy (Zs z w.heap.size u v t) (some p):=fun u v t=>by
  have hs:∀k,k≠w.heap.size→(Zs z w.heap.size u v t).heap[k]?=z.heap[k]?:=fun k hk=>by
   unfold Zs
   rw [Below.heap_setCell _ _ _ _ hk,Below.heap_setCell _ _ _ _ hk,Below.heap_setCell _ _ _ _ hk]
  have I:Below w.heap.size z (Zs z w.heap.size u v t):=ZL (Below.refl _ _) (Nat.le_refl _) _ _ _;have g5:=aj.out;refine ⟨H.kept fun k hk hor=>hs k ?_,⟨I.os.trans g5.os,I.tape.trans g5.tape,I.output.trans g5.output,Nat.le_trans g5.size (by unfold Zs;simp),fun k hk hn=>(hs k (by omega)).trans (g5.block k hk hn)⟩⟩
  rcases hor with rfl | ⟨q,hq,rfl⟩
  ·exact fun e=>aa e.symm
  ·exact o.out.2.2.2 q hq
 have Z:Hid (∀u v t,zf (Zs z w.heap.size u v t) p base cap bs x y∧w.grownBy (Zs z w.heap.size u v t) (some p)):=KR;have al:=Q.symm;clear J Q G ai L H aa KR p5
 by_cases hy:y=0
 ·subst hy
  have S:Hid (xP bs at0 er=((a,b,c),x,0)):=by
   show _=_
   rw [D.out];rfl
  obtain ⟨X,T,U,-⟩:=zl (Zt R (.int .i64 a) (.int .i64 b) (.string (za c)))
  unfold Zs at X T U
  clear R;go_wp2_with fail
  refine ce.mono ?_;clear ce;rintro e w6 ⟨rfl,rfl⟩;go_wp2
  exact bodyPost_ret (v:=.agg #[.int .i64 a,.int .i64 b,.string (za c)]) (by simp [results,Tryz.results17,go_sem,X,T,U]) rfl ⟨by rw [S.out];rfl,by rw [S.out];exact Z.out _ _ _⟩
 ·have S:Hid (xP bs at0 er=((0,0,[]),x,y)):=by
   show _=_
   rw [D.out];unfold V4;rw [if_neg hy]
  have am:¬ (y:Int)=0:=by omega
  obtain ⟨X,T,U,-⟩:=zl (Zt R (.int .i64 0) (.int .i64 0) (.string ⟨#[]⟩))
  unfold Zs at X T U
  clear R;go_wp2_with fail
  refine ce.mono ?_;clear ce;rintro e w6 ⟨rfl,rfl⟩;go_wp2
  exact bodyPost_ret (v:=.agg #[.int .i64 0,.int .i64 0,.string ⟨#[]⟩]) (by simp [results,Tryz.results17,go_sem,X,T,U]) rfl ⟨by rw [S.out];rfl,by rw [S.out];exact Z.out _ _ _⟩
def xQ (k n:Int) (s:List UInt8):List UInt8:=Zg k++Zg n++xm (za s)
theorem V6 (v:Value) (bs:List UInt8) (k n:Int) (s:List UInt8) (hk:-9223372036854775808≤k∧k≤9223372036854775807) (hn:-9223372036854775808≤n∧n≤9223372036854775807) (w:World) (hv:zz w v bs) (hb:bs.length+s.length+100≤140737488355328) :
  Calls Tryz.prog 19 #[v,ZJ k n s] w fun e w'=>∃v',e=.returned v'∧w'.ownsRow w.heap.size 5 1 v' (bs++xQ k n s).length (Lib.byteCells (bs++xQ k n s))∧Below w.heap.size w w':=by
 obtain ⟨R,I,D,U,X⟩:=yd w (.cells #[.int .i64 k,.int .i64 n,.string (za s)] 24 (0,0));have J:zz R v bs:=Zb hv D (Nat.le_refl _);have kl:=yV hk.1 hk.2;have nl:=yV hn.1 hn.2;have c1:=Yx v bs k hk.1 hk.2 R J (by omega)
 have T:Hid (R.heap[w.heap.size]?=some (.cells #[.int .i64 k,.int .i64 n,.string (za s)] 24 (0,0))∧Below w.heap.size w R):=⟨X,D⟩;obtain ⟨N,K,M,-⟩:=zl X
 unfold ZJ
 have L:=I.symm;clear I D U J hv X
 go_enter Tryz.func19,Tryz.ntmps19
 go_wp2_with fail
 refine c1.mono ?_;clear c1 N K M L;rintro e S ⟨v2,rfl,z,H⟩;have Y:S.heap[w.heap.size]?=_:=(H.block _ (yj T.out.1)).trans T.out.1;have c2:=Yx v2 (bs++Zg k) n hn.1 hn.2 S (Z3 z) (by simp only [List.length_append];omega)
 obtain ⟨N,K,M,-⟩:=zl Y;have G:Hid (S.heap[w.heap.size]?=some (.cells #[.int .i64 k,.int .i64 n,.string (za s)] 24 (0,0))∧Below w.heap.size w S):=⟨Y,ZC T.out.2 H⟩;clear z H Y;go_wp2_with fail
 refine c2.mono ?_;clear c2 N K M;rintro e V ⟨v3,rfl,A,E⟩;have p3:V.heap[w.heap.size]?=_:=(E.block _ (yj G.out.1)).trans G.out.1;have c3:=Xg v3 (bs++Zg k++Zg n) (za s) V (Z3 A) (by simp only [List.length_append];rw [zP];omega)
 obtain ⟨N,K,M,-⟩:=zl p3;have O:Hid (Below w.heap.size w V):=ZC G.out.2 E;clear A E p3;go_wp2_with fail
 refine c3.mono ?_;clear c3 N K M;rintro e Z ⟨v4,rfl,y,Q⟩;have W:Hid (Below w.heap.size w Z):=ZC O.out Q;have o:bs++Zg k++Zg n++xm (za s)=bs++xQ k n s:=by unfold xQ;simp [List.append_assoc]
 have HO:Hid (Z.ownsRow w.heap.size 5 1 v4 (bs++xQ k n s).length (Lib.byteCells (bs++xQ k n s))):=by
  show World.ownsRow _ _ _ _ _ _ _
  rw [←o];exact Yw y O.out.size
 clear y Q o;go_wp2
 go_ret
 exact ⟨v4,rfl,HO.out,W.out⟩
theorem UU (w:World) (A B C:Obj):Below w.heap.size w (((w.alloc A).alloc B).alloc C):=(((Below.refl _ w).alloc (Nat.le_refl _) _).alloc (by simp) _).alloc (by simp;omega) _
theorem Uq (w:World) (A B C:Obj) (j:Nat) (v:Value):Below w.heap.size w ((((w.alloc A).alloc B).alloc C).setCell ⟨w.heap.size+1+1,j,none⟩ v):=(UU w A B C).setCell (by simp;omega) _
theorem Ur (w:World) (A B C:Obj) (j i:Nat) (v u:Value):Below w.heap.size w (((((w.alloc A).alloc B).alloc C).setCell ⟨w.heap.size+1+1,j,none⟩ v).setCell ⟨w.heap.size+1+1,i,none⟩ u):=(Uq w A B C j v).setCell (by simp;omega) _
theorem X0 (r:Wq) (k n:Int) (s:List UInt8) (w:World) :
  Calls Tryz.prog 31 #[wV r,ZJ k n s] w fun e w'=>e=.returned (.bool (decide (k=r.1∧(r.2.2.1=false→n=0)∧(r.2.2.2.2.1=false→s=[]))))∧Below w.heap.size w w':=by
 obtain ⟨a,b,c,d,f,g⟩:=r
 unfold wV ZJ
 simp only
 cases c <;> cases f <;> (go_enter Tryz.func31,Tryz.ntmps31;go_wp2)
 all_goals
  go_ret
  exact ⟨by simp_all,by first | exact UU _ _ _ _ | exact Uq _ _ _ _ _ _ | exact Ur _ _ _ _ _ _ _ _⟩
theorem V7 (r:Wq) (n:Int) (w:World) :
  Calls Tryz.prog 32 #[wV r,.int .i64 n] w fun e w'=>e=.returned (.bool (decide (r.2.2.1=true→r.2.2.2.1≤n∧n≤4294967296)))∧Below w.heap.size w w':=by
 obtain ⟨a,b,c,d,f,g⟩:=r
 unfold wV
 simp only
 cases c <;> (go_enter Tryz.func32,Tryz.ntmps32;go_wp2)
 all_goals
  go_ret
  refine ⟨?_,(Below.refl _ w).alloc (Nat.le_refl _) _⟩
  first | (simp_all;done) | (simp_all;omega)
end Go.Proofs.YtmbofhpmockmbaaGreatDoor
