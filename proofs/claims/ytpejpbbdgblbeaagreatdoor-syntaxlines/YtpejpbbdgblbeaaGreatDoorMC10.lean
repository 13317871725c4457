import Derived.Test.YtpejpbbdgblbeaaGreatDoorMC9
namespace Go.Proofs.YtpejpbbdgblbeaaGreatDoor
open Go.RowKit Go.Shelf
set_option maxHeartbeats 16000000
set_option maxRecDepth 100000
theorem U3 (l:List (Option (List UInt8))) {i:Nat} (h:rowO l i=none):∀k,rowO l (i+k)=none
 | 0=>h
 | k+1=>by
  show rowO l (i+k+1)=none
  rw [rowO,U3 l h k];rfl
theorem U4 (l:List (Option (List UInt8))) {i m:Nat} (hi:i<m) (h:(l[i]?).getD none=none):rowO l m=none:=by
 have o:rowO l (i+1)=none:=by
  rw [rowO,h]
  cases rowO l i <;> rfl
 have:=U3 l o (m-(i+1))
 rwa [show i+1+(m-(i+1))=m by omega] at this
theorem zfm {sz:Nat} {us:List (List Value)} (hfive:∀c∈us,c.length=sz) {i j:Nat} {c:List Value} (hc:us[i]?=some c) (hj:j<sz):us.flatten[i*sz+j]?=c[j]?:=by
 induction us generalizing i with
 | nil=>simp at hc
 | cons d us ih =>
  have hd:d.length=sz:=hfive d (by simp)
  cases i with
  | zero =>
   simp only [List.getElem?_cons_zero,Option.some.injEq] at hc;subst hc;rw [List.flatten_cons,List.getElem?_append_left (by omega)]
   simp
  | succ i =>
   have e:(i+1)*sz=i*sz+sz:=Nat.succ_mul i sz;rw [List.flatten_cons,List.getElem?_append_right (by omega)]
   rw [show (i+1)*sz+j-d.length=i*sz+j by omega]
   exact ih (fun c hc=>hfive c (by simp [hc])) (by simpa using hc)
theorem Zs.kid {B:Nat} {w:World} {k:Int} {s:List UInt8} {n:Int} {kids:List Ez} {line:Int} {v:Value} (h:Zs B w (.mk k s n kids line) v):∃base cap,v=yu k s n base kids.length cap line∧kids.length≤cap∧cap≤maxLen∧s.length≤100000000∧-9223372036854775808≤n∧n≤9223372036854775807 ∧
  ∀i x,kids[i]?=some x→∃b o G D H A z I a7,base=some ⟨b,o,none⟩∧b<B∧b<w.heap.size∧Zs B w x (yu G D H A z I a7) ∧
   w.cell? ⟨b,o+i*5,none⟩=some (.int .i64 G)∧w.cell? ⟨b,o+i*5+1,none⟩=some (.string (zb D))∧w.cell? ⟨b,o+i*5+2,none⟩=some (.int .i64 H)∧w.cell? ⟨b,o+i*5+3,none⟩=some (.slice A z I)∧w.cell? ⟨b,o+i*5+4,none⟩=some (.int .i64 a7):=by
 cases h with
 | mk k s n kids line base cap b o us hs hn0 hn1 hbase hlen hc hm hcell hfive hk =>
  refine ⟨base,cap,rfl,hc,hm,hs,hn0,hn1,fun i x hx=>?_⟩
  have U:i<kids.length:=(List.getElem?_eq_some_iff.1 hx).1;have Q:kids≠[]:=by rintro rfl;simp at U
  obtain ⟨L,T,O⟩:=hbase Q;obtain ⟨c,K⟩:∃c,us[i]?=some c:=⟨us[i]'(by omega),List.getElem?_eq_getElem (by omega)⟩
  have J:=hk i x c hx K
  obtain ⟨G,D,H,A,z,I,a7,N⟩:∃G D H A z I a7,Value.agg c.toArray=yu G D H A z I a7:=by
   generalize Value.agg c.toArray=V at J;cases J with
   | mk=>exact ⟨_,_,_,_,_,_,_,rfl⟩
  have R:c=[.int .i64 G,.string (zb D),.int .i64 H,.slice A z I,.int .i64 a7]:=by
   have:=congrArg (fun v=>match v with | .agg a=>a.toList | _=>[]) N
   simpa using this
  subst R
  have y:∀j u,j<5→([.int .i64 G,.string (zb D),.int .i64 H,.slice A z I,.int .i64 a7]:List Value)[j]?=some u→w.cell? ⟨b,o+i*5+j,none⟩=some u:=fun j u hj hu=>by
   rw [Nat.add_assoc];exact hcell _ _ ((zfm hfive K hj).trans hu)
  exact ⟨b,o,G,D,H,A,z,I,a7,L,T,O,J,y 0 _ (by omega) rfl,y 1 _ (by omega) rfl,y 2 _ (by omega) rfl,y 3 _ (by omega) rfl,y 4 _ (by omega) rfl⟩
theorem vI (w0:World) (f:Ez→Option (List UInt8)) (l:List Ez) (base:Option Addr) (cap bw bd r:Nat) (q:Option Nat) (t:List UInt8) (w:World) (h:zu w0 r q t w) (hc:l.length≤cap) (hm:cap≤maxLen)
  (hl:∀i x,l[i]?=some x→∃b o a1 O V K a5 a6 U,base=some ⟨b,o,none⟩∧b<w0.heap.size∧b<w0.heap.size∧Zs w0.heap.size w0 x (yu a1 O V K a5 a6 U) ∧
   w0.cell? ⟨b,o+i*5,none⟩=some (.int .i64 a1)∧w0.cell? ⟨b,o+i*5+1,none⟩=some (.string (zb O))∧w0.cell? ⟨b,o+i*5+2,none⟩=some (.int .i64 V)∧w0.cell? ⟨b,o+i*5+3,none⟩=some (.slice K a5 a6)∧w0.cell? ⟨b,o+i*5+4,none⟩=some (.int .i64 U))
  (hone:∀x v A t1 w1,x∈l→Zs w0.heap.size w0 x v→zu w0 r A t1 w1→zP r q w A w1→Calls Tryz.prog 79 #[v,.pointer (some ⟨bw,0,none⟩),.pointer (some ⟨bd,0,none⟩)] w1 (zk w0 r A t1 w1 (f x))) :
  Calls Tryz.prog 83 #[.pointer (some ⟨r,0,none⟩),.slice base l.length cap,.func (.func 79) #[] #[.pointer (some ⟨bw,0,none⟩),.pointer (some ⟨bd,0,none⟩)]] w (zk w0 r q t w (rowO (l.map f) l.length)):=by
 obtain ⟨n,hn⟩:∃n,n=l.length:=⟨_,rfl⟩;rw [←hn] at hc ⊢;have ar:n≤9223372036854775807:=by unfold maxLen at hm;omega
 obtain ⟨R,hR⟩:∃R,R=rowO (l.map f) n:=⟨_,rfl⟩;rw [←hR];have HR:Hid (R=rowO (l.map f) n):=hR;have HN:Hid (n=l.length):=hn;have HC:=hl
 have aj:Hid (∀i x,l[i]?=some x→∃b o a1 O V K a5 a6 U,base=some ⟨b,o,none⟩∧b<w0.heap.size∧b<w0.heap.size∧Zs w0.heap.size w0 x (yu a1 O V K a5 a6 U) ∧
   w0.cell? ⟨b,o+i*5,none⟩=some (.int .i64 a1)∧w0.cell? ⟨b,o+i*5+1,none⟩=some (.string (zb O))∧w0.cell? ⟨b,o+i*5+2,none⟩=some (.int .i64 V)∧w0.cell? ⟨b,o+i*5+3,none⟩=some (.slice K a5 a6)∧w0.cell? ⟨b,o+i*5+4,none⟩=some (.int .i64 U)):=hl
 have L:Hid (∀x v A t1 w1,x∈l→Zs w0.heap.size w0 x v→zu w0 r A t1 w1→zP r q w A w1→Calls Tryz.prog 79 #[v,.pointer (some ⟨bw,0,none⟩),.pointer (some ⟨bd,0,none⟩)] w1 (zk w0 r A t1 w1 (f x))):=hone;have HW:Hid (zu w0 r q t w):=h;have ax:=h.lt.1;have ay:=h.lt.2;clear HC hl hone h hn hR
 go_enter Tryz.func83,Tryz.ntmps83
 go_wp2_with fail
 go_loopw [10] (fun i wr=>∃(k:Nat) (A:Option Nat) (s:List UInt8),k≤n∧i=.int .i64 k∧zP r q w A wr∧rowO (l.map f) k=some s∧zu w0 r A (t++s) wr) (fun i _=>n-(intOf i).toNat)
 case atStart=>exact ⟨0,q,[],Nat.zero_le _,rfl,zP.refl _ _ _,rfl,by rw [List.append_nil];exact HW.out⟩
 case round =>
  obtain ⟨k,A,s,hk,rfl,ah,G,z⟩:=hrel
  by_cases hlt:k<n
  ·obtain ⟨x,hx⟩:∃x,l[k]?=some x:=⟨l[k]'(by rw [←HN.out];exact hlt),List.getElem?_eq_getElem (by rw [←HN.out];exact hlt)⟩
   obtain ⟨b,o,a1,O,V,K,a5,a6,U,rfl,N,-,al,m0,m1,m2,m3,m4⟩:=aj.out k x hx;have n0:=(z.env.cell (p:=⟨b,o+k*5,none⟩) N).trans m0;have n1:=(z.env.cell (p:=⟨b,o+k*5+1,none⟩) N).trans m1;have n2:=(z.env.cell (p:=⟨b,o+k*5+2,none⟩) N).trans m2;have n3:=(z.env.cell (p:=⟨b,o+k*5+3,none⟩) N).trans m3;have n4:=(z.env.cell (p:=⟨b,o+k*5+4,none⟩) N).trans m4;clear m0 m1 m2 m3 m4;have an:(k:Int)<(n:Int):=by omega
   obtain ⟨H,I⟩:∃H,H=wr.alloc (Yi a1 O V K a5 a6 U):=⟨_,rfl⟩;have p2:H.heap[wr.heap.size]?=some (.cells #[.int .i64 a1,.string (zb O),.int .i64 V,.slice K a5 a6,.int .i64 U] 45 (0,0)):=by rw [I];exact World.alloc_heap_new wr _
   have au:H.heap.size=wr.heap.size+1:=by rw [I];simp
   have J:Hid (zP r q w A H):=show zP _ _ _ _ _ by rw [I];exact ah.alloc _
   have ae:Hid (zu w0 r A (t++s) H):=show zu _ _ _ _ _ by rw [I];exact z.alloc _
   have aq:=z.lt.1;have am:=z.lt.2
   have D:∀W:World,W.heap[wr.heap.size]?=H.heap[wr.heap.size]?→W.cell? ⟨wr.heap.size,0,none⟩=some (.int .i64 a1)∧W.cell? ⟨wr.heap.size,1,none⟩=some (.string (zb O))∧W.cell? ⟨wr.heap.size,2,none⟩=some (.int .i64 V)∧W.cell? ⟨wr.heap.size,3,none⟩=some (.slice K a5 a6)∧W.cell? ⟨wr.heap.size,4,none⟩=some (.int .i64 U):=fun W hW=>by
    rw [p2] at hW;refine ⟨?_,?_,?_,?_,?_⟩ <;> (simp only [World.cell?,hW];rfl)
   have aa:((l.map f)[k]?).getD none=f x:=by rw [List.getElem?_map,hx];rfl
   have ag:Hid (f x=none→R=none):=fun h9=>by rw [HR.out];exact U4 _ hlt (by rw [aa,h9])
   have af:Hid (∀u,f x=some u→rowO (l.map f) (k+1)=some (s++((if k=0 then [] else [44,32])++u))):=fun u h9=>by
    rw [rowO,G,aa,h9];rfl
   have cx:=fun q2 t2 W h1 h2=>L.out x _ q2 t2 W (List.mem_of_getElem? hx) al h1 h2
   have ad:Hid (∀A t1 w1,zu w0 r A t1 w1→zP r q w A w1→Calls Tryz.prog 79 #[yu a1 O V K a5 a6 U,.pointer (some ⟨bw,0,none⟩),.pointer (some ⟨bd,0,none⟩)] w1 (zk w0 r A t1 w1 (f x))):=cx;have T:Hid (∀W:World,W.heap[wr.heap.size]?=H.heap[wr.heap.size]?→W.cell? ⟨wr.heap.size,0,none⟩=some (.int .i64 a1)∧W.cell? ⟨wr.heap.size,1,none⟩=some (.string (zb O))∧W.cell? ⟨wr.heap.size,2,none⟩=some (.int .i64 V)∧W.cell? ⟨wr.heap.size,3,none⟩=some (.slice K a5 a6)∧W.cell? ⟨wr.heap.size,4,none⟩=some (.int .i64 U)):=D;have av:=I.symm;clear cx D aa al ah z G aj L HW I p2;generalize f x=X at *;rcases Nat.eq_zero_or_pos k with ao | ao
   ·subst ao
    rw [Nat.zero_mul,Nat.add_zero] at n0 n1 n2 n3 n4;obtain ⟨c0,c1,c2,c3,c4⟩:=T.out H rfl;have c:=ad.out A (t++s) H ae.out J.out;go_wp2_with fail
    refine c.mono ?_;clear c;rintro e w3 ⟨q3,y,hp⟩;cases X with
    | none=>subst hp;obtain rfl:=ag.out rfl;exact ⟨rfl,q3,J.out.trans y,rfl⟩
    | some u =>
     obtain ⟨rfl,Y⟩:=hp;have Z:Hid (∃(k':Nat) (q':Option Nat) (s':List UInt8),k'=1∧zP r q w q' w3∧rowO (l.map f) k'=some s'∧zu w0 r q' (t++s') w3):=⟨1,q3,_,rfl,J.out.trans y,af.out u rfl,by rw [if_pos trivial,List.nil_append,←List.append_assoc];exact Y⟩
     clear y Y af ag J ae ad T c0 c1 c2 c3 c4;go_wp2
     obtain ⟨k',q',s',rfl,h1,h2,h3⟩:=Z.out;exact ⟨⟨1,q',s',by omega,by go_num,h1,h2,h3⟩,by simp [intOf];omega⟩
   ·have aw:(0:Int)<(k:Int):=by omega
    obtain ⟨c0,c1,c2,c3,c4⟩:=T.out H rfl;have cp:=zt w0 r A (t++s) [44,32] H ae.out (by simp)
    go_wp2_with fail
    refine cp.mono ?_;clear cp c0 c1 c2 c3 c4;rintro e w3 ⟨q3,y,rfl,Y⟩;have az:=y.size;have ab:w3.heap[wr.heap.size]?=H.heap[wr.heap.size]?:=y.block _ (by omega) (by omega) (fun e=>by have:=am _ e;omega)
    obtain ⟨c0,c1,c2,c3,c4⟩:=T.out w3 ab;have ai:Hid (zP r q w q3 w3):=J.out.trans y;have c:=ad.out q3 (t++s++[44,32]) w3 Y ai.out;clear y Y ab;go_wp2_with fail
    refine c.mono ?_;clear c;rintro e w4 ⟨q4,Q,hp⟩;cases X with
    | none=>subst hp;obtain rfl:=ag.out rfl;exact ⟨rfl,q4,ai.out.trans Q,rfl⟩
    | some u =>
     obtain ⟨rfl,ak⟩:=hp;have Z:Hid (∃(k':Nat) (q':Option Nat) (s':List UInt8),k'=k+1∧zP r q w q' w4∧rowO (l.map f) k'=some s'∧zu w0 r q' (t++s') w4):=⟨k+1,q4,_,rfl,ai.out.trans Q,af.out u rfl,by rw [if_neg (by omega),←List.append_assoc,←List.append_assoc];exact ak⟩
     clear Q ak af ag J ai ae ad T c0 c1 c2 c3 c4;go_wp2
     obtain ⟨k',q',s',rfl,h1,h2,h3⟩:=Z.out;exact ⟨⟨k+1,q',s',by omega,by go_num,h1,h2,h3⟩,by simp [intOf];omega⟩
  ·have ap:k=n:=by omega
   have an:¬(k:Int)<(n:Int):=by omega
   have HP:Hid (zk w0 r q t w R (.returned (.tuple #[])) wr):=show zk _ _ _ _ _ _ _ _ by
    rw [HR.out,←ap,G];exact ⟨A,ah,rfl,z⟩
   clear ah z G aj L HW;go_wp2
   exact bodyPost_ret (v:=.tuple #[]) (by simp [results,Tryz.results83,go_sem]) rfl HP.out
def lvK (k:Int) (s:List UInt8):Nat:=if k=7 then levelOf s else if k=6 then 7 else 8
theorem zfK (k:Int) (s:List UInt8):lvK k s≤8:=by
 unfold lvK
 have:=vH s
 split
 ·omega
 ·split <;> omega
theorem Uz (k:Int) (s:List UInt8) (n:Int) (base:Option Addr) (m cap:Nat) (line:Int) (w:World) (ht:Zz w) :
  Calls Tryz.prog 147 #[yu k s n base m cap line] w fun e w'=>e=.returned (.int .i64 (lvK k s:Int))∧Below w.heap.size w w':=by
 obtain ⟨w1,h⟩:∃w1,w1=w.alloc (Yi k s n base m cap line):=⟨_,rfl⟩;have o:Below w.heap.size w w1:=by rw [h];exact (Below.refl _ w).alloc (Nat.le_refl _) _
 have A:w1.heap[w.heap.size]?=some (.cells #[.int .i64 k,.string (zb s),.int .i64 n,.slice base m cap,.int .i64 line] 45 (0,0)):=by rw [h];exact World.alloc_heap_new w _
 have L:w1.cell? ⟨w.heap.size,0,none⟩=some (.int .i64 k):=by simp only [World.cell?,A];rfl
 have c1:w1.cell? ⟨w.heap.size,1,none⟩=some (.string (zb s)):=by simp only [World.cell?,A];rfl
 have D:=Xd s w1 (fun j v hj=>by rw [h];exact zj (ht j v hj) _)
 have z:Hid (Below w.heap.size w w1):=o;have I:=h.symm;clear o A h ht
 by_cases h7:k=7
 ·have G:Hid (lvK k s=levelOf s):=show _=_ by unfold lvK;rw [if_pos h7]
  subst h7
  go_enter Tryz.func147,Tryz.ntmps147
  go_wp2_with fail
  refine D.mono ?_;rintro e J ⟨rfl,y⟩;have H:Hid (Below w.heap.size w J):=zl z.out y;clear y D;go_wp2
  exact bodyPost_ret (v:=.int .i64 (levelOf s:Int)) (by simp [results,Tryz.results147,go_sem]) rfl ⟨by rw [G.out],H.out⟩
 ·have N:(k==7)=false:=by rw [beq_eq_false_iff_ne];exact h7
  clear D
  by_cases h6:k=6
  ·subst h6
   go_enter Tryz.func147,Tryz.ntmps147
   go_wp2
   exact bodyPost_ret (v:=.int .i64 7) (by simp [results,Tryz.results147,go_sem]) rfl ⟨rfl,z.out⟩
  ·have K:(k==6)=false:=by rw [beq_eq_false_iff_ne];exact h6
   have G:Hid (lvK k s=8):=show _=_ by unfold lvK;rw [if_neg h7,if_neg h6]
   go_enter Tryz.func147,Tryz.ntmps147
   go_wp2
   exact bodyPost_ret (v:=.int .i64 8) (by simp [results,Tryz.results147,go_sem]) rfl ⟨by rw [G.out];rfl,z.out⟩
def yD (w0:World) (d:Nat):Prop:=∀(x:Ez) (v:Value) (r:Nat) (q:Option Nat) (t:List UInt8) (w:World),Zs w0.heap.size w0 x v→zu w0 r q t w→Calls Tryz.prog 42 #[.pointer (some ⟨r,0,none⟩),v,.int .i64 (d:Int)] w (zk w0 r q t w (prE d x))
theorem vX (w0:World) (d:Nat) (hX:yD w0 d) (hl:Zz w0) (x:Ez) (v:Value) (least r:Nat) (q:Option Nat) (t:List UInt8) (w:World) (hx:Zs w0.heap.size w0 x v) (h:zu w0 r q t w) :
  Calls Tryz.prog 124 #[.pointer (some ⟨r,0,none⟩),v,.int .i64 (least:Int),.int .i64 (d:Int)] w (zk w0 r q t w (kidO x least (prE d x))):=by
 have al:=hx;obtain ⟨k,s,n,kids,line,y,D,b,o,us,hs,au,ay,Z,ai,hc,hm,ab,ae,hk⟩:=hx;obtain ⟨w1,H⟩:∃w1,w1=w.alloc (Yi k s n y kids.length D line):=⟨_,rfl⟩;have aa:Below w.heap.size w w1:=by rw [H];exact (Below.refl _ w).alloc (Nat.le_refl _) _
 have p1:w1.heap[w.heap.size]?=some (.cells #[.int .i64 k,.string (zb s),.int .i64 n,.slice y kids.length D,.int .i64 line] 45 (0,0)):=by rw [H];exact World.alloc_heap_new w _
 have h1:=h.below aa;have cl:=Uz k s n y kids.length D line w1 (fun j v hj=>by rw [h1.env.cell (World.block_lt_of_cell? w0 _ (hl j v hj))];exact hl j v hj)
 have ap:w1.heap.size=w.heap.size+1:=by rw [H];simp
 have ax:=zfK k s;have HR:Hid (kidO (.mk k s n kids line) least (prE d (.mk k s n kids line))=if least≤lvK k s then prE d (.mk k s n kids line) else zc (some [40]) (zc (prE d (.mk k s n kids line)) (some [41]))):=rfl
 have O:Hid (∀(q:Option Nat) (t:List UInt8) (w:World),zu w0 r q t w→Calls Tryz.prog 42 #[.pointer (some ⟨r,0,none⟩),yu k s n y kids.length D line,.int .i64 (d:Int)] w (zk w0 r q t w (prE d (.mk k s n kids line)))):=fun q t w h=>hX _ _ r q t w al h
 have hr:=h.lt.1;have J:=h.lt.2;generalize kidO (.mk k s n kids line) least (prE d (.mk k s n kids line))=R at *;generalize prE d (.mk k s n kids line)=X at *;generalize kids.length=m at *
 have z:∀W:World,W.heap[w.heap.size]?=w1.heap[w.heap.size]?→W.cell? ⟨w.heap.size,0,none⟩=some (.int .i64 k)∧W.cell? ⟨w.heap.size,1,none⟩=some (.string (zb s))∧W.cell? ⟨w.heap.size,2,none⟩=some (.int .i64 n)∧W.cell? ⟨w.heap.size,3,none⟩=some (.slice y m D)∧W.cell? ⟨w.heap.size,4,none⟩=some (.int .i64 line):=fun W hW=>by
  rw [p1] at hW;refine ⟨?_,?_,?_,?_,?_⟩ <;> (simp only [World.cell?,hW];rfl)
 have N:Hid (∀W:World,W.heap[w.heap.size]?=w1.heap[w.heap.size]?→W.cell? ⟨w.heap.size,0,none⟩=some (.int .i64 k)∧W.cell? ⟨w.heap.size,1,none⟩=some (.string (zb s))∧W.cell? ⟨w.heap.size,2,none⟩=some (.int .i64 n)∧W.cell? ⟨w.heap.size,3,none⟩=some (.slice y m D)∧W.cell? ⟨w.heap.size,4,none⟩=some (.int .i64 line)):=z;obtain ⟨c0,c1,c2,c3,c4⟩:=z w1 rfl;have am:Hid (zu w0 r q t w1):=h1;have ao:Hid (zP r q w q w1):=zP.below aa;have aq:=H.symm;clear H p1 aa h1 h al z hX hl Z ai hc ab ae hk;generalize hLV:lvK k s=L at *;clear hLV
 go_enter Tryz.func124,Tryz.ntmps124
 go_wp2_with fail
 refine cl.mono ?_;clear cl;rintro e w2 ⟨rfl,G⟩;obtain ⟨c0,c1,c2,c3,c4⟩:=N.out w2 (G.block _ (by omega))
 have av:=G.size;have ad:Hid (w2.heap[w.heap.size]?=w1.heap[w.heap.size]?):=G.block _ (by omega)
 have Q:Hid (zu w0 r q t w2):=am.out.below G;have T:Hid (zP r q w q w2):=ao.out.trans (zP.below G);clear G am ao;have hR:=HR.out;clear HR
 by_cases hle:least≤L
 ·rw [if_pos hle] at hR
  subst hR;have cx:=O.out q t w2 Q.out;have h9:(least:Int)≤(L:Int):=by omega
  go_wp2_with fail
  refine cx.mono ?_;clear cx;rintro e Y ⟨q3,ak,hp⟩;have K:=T.out.trans ak;cases R with
  | none=>subst hp;exact ⟨rfl,q3,K,rfl⟩
  | some u =>
   obtain ⟨rfl,hw⟩:=hp;have HP:Hid (zk w0 r q t w (some u) (.returned (.tuple #[])) Y):=⟨q3,K,rfl,hw⟩;clear ak hw K T Q O N ad;go_wp2
   exact bodyPost_ret (v:=.tuple #[]) (by simp [results,Tryz.results124,go_sem]) rfl HP.out
 ·rw [if_neg hle] at hR
  subst hR;have cp:=zt w0 r q t [40] w2 Q.out (by simp)
  have h9:¬ (least:Int)≤(L:Int):=by omega
  go_wp2_with fail
  refine cp.mono ?_;clear cp;rintro e Y ⟨q3,A,rfl,aj⟩;have U:Hid (zP r q w q3 Y):=T.out.trans A;have V:Y.heap[w.heap.size]?=w2.heap[w.heap.size]?:=A.block _ (by omega) (by omega) (fun e=>by have:=J _ e;omega)
  have an:Hid (Y.heap[w.heap.size]?=w1.heap[w.heap.size]?):=V.trans ad.out;obtain ⟨c0,c1,c2,c3,c4⟩:=N.out Y an.out;have cx:=O.out q3 (t++[40]) Y aj;have aw:=A.size
  have ar:∀k,q3=some k→k≠w.heap.size:=fun k hk=>by
   rcases U.out.row with e | e
   ·have:=J k (e ▸ hk);omega
   ·rcases A.row with e2 | e2
    ·have:=J k (e2 ▸ hk);omega
    ·have:=e2 k hk;omega
  clear A aj V;go_wp2_with fail
  refine cx.mono ?_;clear cx;rintro e w4 ⟨q4,I,hp⟩;cases X with
  | none=>subst hp;exact ⟨rfl,zk.seq U.out (zk.stop I rfl)⟩
  | some u =>
   obtain ⟨rfl,ah⟩:=hp;have ag:Hid (zP r q3 Y q4 w4):=I;have cp:=zt w0 r q4 (t++[40]++u) [41] w4 ah (by simp)
   clear I ah;go_wp2_with fail
   refine cp.mono ?_;clear cp;rintro e w5 af;have HP:Hid (zk w0 r q t w (zc (some [40]) (zc (some u) (some [41]))) e w5):=zk.seq U.out (zk.seq ag.out af);obtain ⟨-,-,rfl,-⟩:=af;clear U ag Q T O N ad an;go_wp2
   exact bodyPost_ret (v:=.tuple #[]) (by simp [results,Tryz.results124,go_sem]) rfl HP.out
structure zp (r:Nat) (q0:Option Nat) (w w1:World) (q:Option Nat) (W:World):Prop where
 unto:zP r q0 w q W
 hr:r<w.heap.size
 block:∀k,w.heap.size≤k→k<w1.heap.size→W.heap[k]?=w1.heap[k]?
 hq:∀k,q=some k→k<w.heap.size∨w1.heap.size≤k
 size:w1.heap.size≤W.heap.size
theorem zp.step {r:Nat} {q0 q q':Option Nat} {w w1 W W':World} (h:zp r q0 w w1 q W) (ht:zP r q W q' W'):zp r q0 w w1 q' W':=by
 refine ⟨h.unto.trans ht,h.hr,fun k h1 h2=>?_,fun k hk=>?_,Nat.le_trans h.size ht.size⟩
 ·refine (ht.block k (Nat.lt_of_lt_of_le h2 h.size) (by have:=h.hr;omega) fun e=>?_).trans (h.block k h1 h2)
  rcases h.hq k e with o | o <;> omega
 ·rcases ht.row with e | e
  ·exact h.hq k (e ▸ hk)
  ·exact .inr (Nat.le_trans h.size (e k hk))
theorem zp.start {w0:World} {r:Nat} {q:Option Nat} {t:List UInt8} {w w1:World} (h:zu w0 r q t w) (hb:Below w.heap.size w w1):zp r q w w1 q w1 :=
 ⟨zP.below hb,h.lt.1,fun _ _ _=>rfl,fun k hk=>.inl (h.lt.2 k hk),Nat.le_refl _⟩
theorem zF {w:World} {N:Nat} {k:Int} {s:List UInt8} {n:Int} {base:Option Addr} {m cap:Nat} {line:Int} (p:w.heap[N]?=some (Yi k s n base m cap line)) :
  w.cell? ⟨N,0,none⟩=some (.int .i64 k)∧w.cell? ⟨N,1,none⟩=some (.string (zb s))∧w.cell? ⟨N,2,none⟩=some (.int .i64 n)∧w.cell? ⟨N,3,none⟩=some (.slice base m cap)∧w.cell? ⟨N,4,none⟩=some (.int .i64 line):=by
 refine ⟨?_,?_,?_,?_,?_⟩ <;> (simp only [World.cell?,p];rfl)
structure ZX (w0:World) (b p:Nat) (a1:Int) (a2:List UInt8) (a3:Int) (a4:Option Addr) (a5 a6:Nat) (a7:Int):Prop where
 lt:b<w0.heap.size
 c0:w0.cell? ⟨b,p,none⟩=some (.int .i64 a1)
 c1:w0.cell? ⟨b,p+1,none⟩=some (.string (zb a2))
 c2:w0.cell? ⟨b,p+2,none⟩=some (.int .i64 a3)
 c3:w0.cell? ⟨b,p+3,none⟩=some (.slice a4 a5 a6)
 c4:w0.cell? ⟨b,p+4,none⟩=some (.int .i64 a7)
theorem ZX.now {w0 w:World} {b p:Nat} {a1:Int} {a2:List UInt8} {a3:Int} {a4:Option Addr} {a5 a6:Nat} {a7:Int} (h:ZX w0 b p a1 a2 a3 a4 a5 a6 a7) (hb:Below w0.heap.size w0 w) :
  w.cell? ⟨b,p,none⟩=some (.int .i64 a1)∧w.cell? ⟨b,p+1,none⟩=some (.string (zb a2))∧w.cell? ⟨b,p+2,none⟩=some (.int .i64 a3)∧w.cell? ⟨b,p+3,none⟩=some (.slice a4 a5 a6)∧w.cell? ⟨b,p+4,none⟩=some (.int .i64 a7) :=
 ⟨(hb.cell h.lt).trans h.c0,(hb.cell h.lt).trans h.c1,(hb.cell h.lt).trans h.c2,(hb.cell h.lt).trans h.c3,(hb.cell h.lt).trans h.c4⟩
theorem zfL (w0:World) (d:Nat) (D:Int) (hD:D-1=(d:Int)) (_hD1:1≤D) (hD2:D≤24) (hX:yD w0 d) (hl:Zz w0) (s:List UInt8) (n:Int) (b o cap r:Nat) (line:Int) (q:Option Nat) (t:List UInt8) (w:World) (hs:s.length≤100000000) (h:zu w0 r q t w) (x0:Ez) (a01:Int) (a02:List UInt8) (a03:Int) (a04:Option Addr) (a05 a06:Nat) (a07:Int) (hx0:Zs w0.heap.size w0 x0 (yu a01 a02 a03 a04 a05 a06 a07)) (hk0:ZX w0 b (o) a01 a02 a03 a04 a05 a06 a07) :
  Calls Tryz.prog 84 #[.pointer (some ⟨r,0,none⟩),yu 6 s n (some ⟨b,o,none⟩) 1 cap line,.int .i64 D] w (zk w0 r q t w (zc (some s) (kidO x0 7 (prE d x0)))):=by
 obtain ⟨R,hR⟩:∃R,R=zc (some s) (kidO x0 7 (prE d x0)):=⟨_,rfl⟩;rw [←hR];have ad:Hid (∀(q:Option Nat) (t:List UInt8) (w:World),zu w0 r q t w→Calls Tryz.prog 124 #[.pointer (some ⟨r,0,none⟩),yu a01 a02 a03 a04 a05 a06 a07,.int .i64 ((7:Nat):Int),.int .i64 (d:Int)] w (zk w0 r q t w (kidO x0 (7) (prE d x0)))):=fun q t w h=>vX w0 d hX hl x0 _ (7) r q t w hx0 h
 obtain ⟨w1,y⟩:∃w1,w1=w.alloc (Yi 6 s n (some ⟨b,o,none⟩) 1 cap line):=⟨_,rfl⟩;have K:Below w.heap.size w w1:=by rw [y];exact (Below.refl _ w).alloc (Nat.le_refl _) _
 have p1:w1.heap[w.heap.size]?=some (Yi 6 s n (some ⟨b,o,none⟩) 1 cap line):=by rw [y];exact World.alloc_heap_new w _
 have ae:w1.heap.size=w.heap.size+1:=by rw [y];simp
 have Y:=h.below K;have U:Hid (zp r q w w1 q w1):=zp.start h K;generalize kidO x0 7 (prE d x0)=X0 at *;have HR:Hid (R=zc (some s) X0):=hR;have ab:Hid (zu w0 r q t w1):=Y;have L:Hid (w1.heap[w.heap.size]?=some (Yi 6 s n (some ⟨b,o,none⟩) 1 cap line)):=p1;have G:Hid (ZX w0 b (o) a01 a02 a03 a04 a05 a06 a07):=hk0;have af:=y.symm;obtain ⟨W,c1,c2,Z,V⟩:=zF p1;clear hR Y p1 y K h hX hl hx0 hk0
 go_enter Tryz.func84,Tryz.ntmps84
 have O:=zt w0 r q (t) s w1 ab.out (by omega)
 go_wp2_with fail
 refine O.mono ?_;clear O W c1 c2 Z V;rintro e w2 ⟨q2,H,rfl,Q⟩;have A:Hid (zp r q w w1 q2 w2):=U.out.step H;have I:Hid (zu w0 r q2 (t++s) w2):=Q;clear H Q;obtain ⟨W,c1,c2,Z,V⟩:=zF ((A.out.block _ (Nat.le_refl _) (by omega)).trans L.out)
 have O:=ad.out q2 (t++s) w2 I.out;obtain ⟨k0,k1,k2,k3,k4⟩:=G.out.now I.out.env;go_wp2_with fail
 refine O.mono ?_;clear O W c1 c2 Z V k0 k1 k2 k3 k4;rintro e w3 ⟨q3,z,aa⟩;cases X0 with
 | none=>subst aa;obtain rfl:R=none:=(by rw [HR.out];rfl);exact ⟨rfl,q3,(A.out.step z).unto,rfl⟩
 | some u0 =>
 obtain ⟨rfl,T⟩:=aa;have J:Hid (zp r q w w1 q3 w3):=A.out.step z;have N:Hid (zu w0 r q3 (t++s++u0) w3):=T;clear z T;obtain ⟨W,c1,c2,Z,V⟩:=zF ((J.out.block _ (Nat.le_refl _) (by omega)).trans L.out)
 obtain rfl:R=some (s++(u0)):=by rw [HR.out];rfl
 have HP:Hid (zk w0 r q t w (some (s++(u0))) (.returned (.tuple #[])) w3):=⟨q3,J.out.unto,rfl,by have:=N.out;simpa only [List.append_assoc] using this⟩
 clear U ab A I J N W c1 c2 Z V HR L ad G;go_wp2
 exact bodyPost_ret (v:=.tuple #[]) (by simp [results,Tryz.results84,go_sem]) rfl HP.out
theorem zfM (w0:World) (d:Nat) (D:Int) (hD:D-1=(d:Int)) (_hD1:1≤D) (hD2:D≤24) (hX:yD w0 d) (hl:Zz w0) (s:List UInt8) (n:Int) (b o cap r:Nat) (line:Int) (q:Option Nat) (t:List UInt8) (w:World) (hs:s.length≤100000000) (h:zu w0 r q t w) (x0:Ez) (a01:Int) (a02:List UInt8) (a03:Int) (a04:Option Addr) (a05 a06:Nat) (a07:Int) (hx0:Zs w0.heap.size w0 x0 (yu a01 a02 a03 a04 a05 a06 a07)) (hk0:ZX w0 b (o) a01 a02 a03 a04 a05 a06 a07) (x1:Ez) (a11:Int) (a12:List UInt8) (a13:Int) (a14:Option Addr) (a15 a16:Nat) (a17:Int) (hx1:Zs w0.heap.size w0 x1 (yu a11 a12 a13 a14 a15 a16 a17)) (hk1:ZX w0 b (o+5) a11 a12 a13 a14 a15 a16 a17) :
  Calls Tryz.prog 84 #[.pointer (some ⟨r,0,none⟩),yu 7 s n (some ⟨b,o,none⟩) 2 cap line,.int .i64 D] w (zk w0 r q t w (zc (kidO x0 (levelOf s) (prE d x0)) (zc (some [32]) (zc (some s) (zc (some [32]) (kidO x1 (levelOf s+1) (prE d x1))))))):=by
 obtain ⟨R,hR⟩:∃R,R=zc (kidO x0 (levelOf s) (prE d x0)) (zc (some [32]) (zc (some s) (zc (some [32]) (kidO x1 (levelOf s+1) (prE d x1))))):=⟨_,rfl⟩;rw [←hR];have aj:Hid (∀(q:Option Nat) (t:List UInt8) (w:World),zu w0 r q t w→Calls Tryz.prog 124 #[.pointer (some ⟨r,0,none⟩),yu a01 a02 a03 a04 a05 a06 a07,.int .i64 (((levelOf s):Nat):Int),.int .i64 (d:Int)] w (zk w0 r q t w (kidO x0 ((levelOf s)) (prE d x0)))):=fun q t w h=>vX w0 d hX hl x0 _ ((levelOf s)) r q t w hx0 h
 have ae:Hid (∀(q:Option Nat) (t:List UInt8) (w:World),zu w0 r q t w→Calls Tryz.prog 124 #[.pointer (some ⟨r,0,none⟩),yu a11 a12 a13 a14 a15 a16 a17,.int .i64 (((levelOf s+1):Nat):Int),.int .i64 (d:Int)] w (zk w0 r q t w (kidO x1 ((levelOf s+1)) (prE d x1)))):=fun q t w h=>vX w0 d hX hl x1 _ ((levelOf s+1)) r q t w hx1 h
 obtain ⟨w1,J⟩:∃w1,w1=w.alloc (Yi 7 s n (some ⟨b,o,none⟩) 2 cap line):=⟨_,rfl⟩;have ad:Below w.heap.size w w1:=by rw [J];exact (Below.refl _ w).alloc (Nat.le_refl _) _
 have p1:w1.heap[w.heap.size]?=some (Yi 7 s n (some ⟨b,o,none⟩) 2 cap line):=by rw [J];exact World.alloc_heap_new w _
 have aA:w1.heap.size=w.heap.size+1:=by rw [J];simp
 have ag:=h.below ad;have ap:Hid (zp r q w w1 q w1):=zp.start h ad;have cl:=Xd s w1 (fun j v hj=>by rw [ag.env.cell (World.block_lt_of_cell? w0 _ (hl j v hj))];exact hl j v hj)
 have au:=vH s;obtain ⟨L,hL⟩:∃L,L=levelOf s:=⟨_,rfl⟩;rw [←hL] at cl au hR aj ae;clear hL;generalize kidO x0 L (prE d x0)=X0 at *;generalize kidO x1 (L+1) (prE d x1)=X1 at *;have HR:Hid (R=zc X0 (zc (some [32]) (zc (some s) (zc (some [32]) X1)))):=hR;have ay:Hid (zu w0 r q t w1):=ag;have y:Hid (w1.heap[w.heap.size]?=some (Yi 7 s n (some ⟨b,o,none⟩) 2 cap line)):=p1;have V:Hid (ZX w0 b (o) a01 a02 a03 a04 a05 a06 a07):=hk0;have W:Hid (ZX w0 b (o+5) a11 a12 a13 a14 a15 a16 a17):=hk1;have aB:=J.symm;obtain ⟨G,c1,c2,H,A⟩:=zF p1;clear hR ag p1 J ad h hX hl hx0 hk0 hx1 hk1
 go_enter Tryz.func84,Tryz.ntmps84
 go_wp2_with fail
 refine cl.mono ?_;clear cl G c1 c2 H A;rintro e w2 ⟨rfl,ah⟩;have O:Hid (zp r q w w1 q w2):=ap.out.step (zP.below ah);have Y:Hid (zu w0 r q (t) w2):=ay.out.below ah;clear ah;obtain ⟨G,c1,c2,H,A⟩:=zF ((O.out.block _ (Nat.le_refl _) (by omega)).trans y.out)
 have z:=aj.out q (t) w2 Y.out;obtain ⟨k0,k1,k2,k3,k4⟩:=V.out.now Y.out.env;go_wp2_with fail
 refine z.mono ?_;clear z G c1 c2 H A k0 k1 k2 k3 k4;rintro e w3 ⟨q3,K,ax⟩;cases X0 with
 | none=>subst ax;obtain rfl:R=none:=(by rw [HR.out];rfl);exact ⟨rfl,q3,(O.out.step K).unto,rfl⟩
 | some u0 =>
 obtain ⟨rfl,an⟩:=ax;have aa:Hid (zp r q w w1 q3 w3):=O.out.step K;have ak:Hid (zu w0 r q3 (t++u0) w3):=an;clear K an;obtain ⟨G,c1,c2,H,A⟩:=zF ((aa.out.block _ (Nat.le_refl _) (by omega)).trans y.out)
 have z:=zt w0 r q3 (t++u0) [32] w3 ak.out (by simp)
 go_wp2_with fail
 refine z.mono ?_;clear z G c1 c2 H A;rintro e w4 ⟨q4,U,rfl,aw⟩;have Z:Hid (zp r q w w1 q4 w4):=aa.out.step U;have av:Hid (zu w0 r q4 (t++u0++[32]) w4):=aw;clear U aw;obtain ⟨G,c1,c2,H,A⟩:=zF ((Z.out.block _ (Nat.le_refl _) (by omega)).trans y.out)
 have z:=zt w0 r q4 (t++u0++[32]) s w4 av.out (by omega)
 go_wp2_with fail
 refine z.mono ?_;clear z G c1 c2 H A;rintro e w5 ⟨q5,T,rfl,am⟩;have af:Hid (zp r q w w1 q5 w5):=Z.out.step T;have az:Hid (zu w0 r q5 (t++u0++[32]++s) w5):=am;clear T am;obtain ⟨G,c1,c2,H,A⟩:=zF ((af.out.block _ (Nat.le_refl _) (by omega)).trans y.out)
 have z:=zt w0 r q5 (t++u0++[32]++s) [32] w5 az.out (by simp)
 go_wp2_with fail
 refine z.mono ?_;clear z G c1 c2 H A;rintro e w6 ⟨q6,Q,rfl,al⟩;have N:Hid (zp r q w w1 q6 w6):=af.out.step Q;have ai:Hid (zu w0 r q6 (t++u0++[32]++s++[32]) w6):=al;clear Q al;obtain ⟨G,c1,c2,H,A⟩:=zF ((N.out.block _ (Nat.le_refl _) (by omega)).trans y.out)
 have z:=ae.out q6 (t++u0++[32]++s++[32]) w6 ai.out;obtain ⟨k0,k1,k2,k3,k4⟩:=W.out.now ai.out.env;go_wp2_with fail
 refine z.mono ?_;clear z G c1 c2 H A k0 k1 k2 k3 k4;rintro e w7 ⟨q7,I,aq⟩;cases X1 with
 | none=>subst aq;obtain rfl:R=none:=(by rw [HR.out];rfl);exact ⟨rfl,q7,(N.out.step I).unto,rfl⟩
 | some u1 =>
 obtain ⟨rfl,ao⟩:=aq;have ab:Hid (zp r q w w1 q7 w7):=N.out.step I;have ar:Hid (zu w0 r q7 (t++u0++[32]++s++[32]++u1) w7):=ao;clear I ao;obtain ⟨G,c1,c2,H,A⟩:=zF ((ab.out.block _ (Nat.le_refl _) (by omega)).trans y.out)
 obtain rfl:R=some (u0++([32]++(s++([32]++(u1))))):=by rw [HR.out];rfl
 have HP:Hid (zk w0 r q t w (some (u0++([32]++(s++([32]++(u1)))))) (.returned (.tuple #[])) w7):=⟨q7,ab.out.unto,rfl,by have:=ar.out;simpa only [List.append_assoc] using this⟩
 clear ap ay O Y aa ak Z av af az N ai ab ar G c1 c2 H A HR y aj ae V W;go_wp2
 exact bodyPost_ret (v:=.tuple #[]) (by simp [results,Tryz.results84,go_sem]) rfl HP.out
theorem zfN (w0:World) (d:Nat) (D:Int) (hD:D-1=(d:Int)) (_hD1:1≤D) (hD2:D≤24) (hX:yD w0 d) (hl:Zz w0) (s:List UInt8) (n:Int) (b o cap r:Nat) (line:Int) (q:Option Nat) (t:List UInt8) (w:World) (h:zu w0 r q t w) (x0:Ez) (a01:Int) (a02:List UInt8) (a03:Int) (a04:Option Addr) (a05 a06:Nat) (a07:Int) (hx0:Zs w0.heap.size w0 x0 (yu a01 a02 a03 a04 a05 a06 a07)) (hk0:ZX w0 b (o) a01 a02 a03 a04 a05 a06 a07) (x1:Ez) (a11:Int) (a12:List UInt8) (a13:Int) (a14:Option Addr) (a15 a16:Nat) (a17:Int) (hx1:Zs w0.heap.size w0 x1 (yu a11 a12 a13 a14 a15 a16 a17)) (hk1:ZX w0 b (o+5) a11 a12 a13 a14 a15 a16 a17) :
  Calls Tryz.prog 84 #[.pointer (some ⟨r,0,none⟩),yu 8 s n (some ⟨b,o,none⟩) 2 cap line,.int .i64 D] w (zk w0 r q t w (zc (kidO x0 8 (prE d x0)) (zc (some [91]) (zc (prE d x1) (some [93]))))):=by
 obtain ⟨R,hR⟩:∃R,R=zc (kidO x0 8 (prE d x0)) (zc (some [91]) (zc (prE d x1) (some [93]))):=⟨_,rfl⟩;rw [←hR];have ao:Hid (∀(q:Option Nat) (t:List UInt8) (w:World),zu w0 r q t w→Calls Tryz.prog 124 #[.pointer (some ⟨r,0,none⟩),yu a01 a02 a03 a04 a05 a06 a07,.int .i64 ((8:Nat):Int),.int .i64 (d:Int)] w (zk w0 r q t w (kidO x0 (8) (prE d x0)))):=fun q t w h=>vX w0 d hX hl x0 _ (8) r q t w hx0 h
 have ai:Hid (∀(q:Option Nat) (t:List UInt8) (w:World),zu w0 r q t w→Calls Tryz.prog 42 #[.pointer (some ⟨r,0,none⟩),yu a11 a12 a13 a14 a15 a16 a17,.int .i64 (d:Int)] w (zk w0 r q t w (prE d x1))):=fun q t w h=>hX x1 _ r q t w hx1 h
 obtain ⟨w1,y⟩:∃w1,w1=w.alloc (Yi 8 s n (some ⟨b,o,none⟩) 2 cap line):=⟨_,rfl⟩;have W:Below w.heap.size w w1:=by rw [y];exact (Below.refl _ w).alloc (Nat.le_refl _) _
 have p1:w1.heap[w.heap.size]?=some (Yi 8 s n (some ⟨b,o,none⟩) 2 cap line):=by rw [y];exact World.alloc_heap_new w _
 have ap:w1.heap.size=w.heap.size+1:=by rw [y];simp
 have aj:=h.below W;have Y:Hid (zp r q w w1 q w1):=zp.start h W;generalize kidO x0 8 (prE d x0)=X0 at *;generalize prE d x1=X1 at *;have HR:Hid (R=zc X0 (zc (some [91]) (zc X1 (some [93])))):=hR;have aa:Hid (zu w0 r q t w1):=aj;have H:Hid (w1.heap[w.heap.size]?=some (Yi 8 s n (some ⟨b,o,none⟩) 2 cap line)):=p1;have O:Hid (ZX w0 b (o) a01 a02 a03 a04 a05 a06 a07):=hk0;have T:Hid (ZX w0 b (o+5) a11 a12 a13 a14 a15 a16 a17):=hk1;have aq:=y.symm;obtain ⟨K,c1,c2,L,J⟩:=zF p1;clear hR aj p1 y W h hX hl hx0 hk0 hx1 hk1
 go_enter Tryz.func84,Tryz.ntmps84
 have z:=ao.out q (t) w1 aa.out;obtain ⟨k0,k1,k2,k3,k4⟩:=O.out.now aa.out.env;go_wp2_with fail
 refine z.mono ?_;clear z K c1 c2 L J k0 k1 k2 k3 k4;rintro e w2 ⟨q2,G,af⟩;cases X0 with
 | none=>subst af;obtain rfl:R=none:=(by rw [HR.out];rfl);exact ⟨rfl,q2,(Y.out.step G).unto,rfl⟩
 | some u0 =>
 obtain ⟨rfl,ag⟩:=af;have ab:Hid (zp r q w w1 q2 w2):=Y.out.step G;have ad:Hid (zu w0 r q2 (t++u0) w2):=ag;clear G ag;obtain ⟨K,c1,c2,L,J⟩:=zF ((ab.out.block _ (Nat.le_refl _) (by omega)).trans H.out)
 have z:=zt w0 r q2 (t++u0) [91] w2 ad.out (by simp)
 go_wp2_with fail
 refine z.mono ?_;clear z K c1 c2 L J;rintro e w3 ⟨q3,Q,rfl,ah⟩;have I:Hid (zp r q w w1 q3 w3):=ab.out.step Q;have V:Hid (zu w0 r q3 (t++u0++[91]) w3):=ah;clear Q ah;obtain ⟨K,c1,c2,L,J⟩:=zF ((I.out.block _ (Nat.le_refl _) (by omega)).trans H.out)
 have z:=ai.out q3 (t++u0++[91]) w3 V.out;obtain ⟨k0,k1,k2,k3,k4⟩:=T.out.now V.out.env;go_wp2_with fail
 refine z.mono ?_;clear z K c1 c2 L J k0 k1 k2 k3 k4;rintro e w4 ⟨q4,A,ak⟩;cases X1 with
 | none=>subst ak;obtain rfl:R=none:=(by rw [HR.out];rfl);exact ⟨rfl,q4,(I.out.step A).unto,rfl⟩
 | some u1 =>
 obtain ⟨rfl,am⟩:=ak;have U:Hid (zp r q w w1 q4 w4):=I.out.step A;have al:Hid (zu w0 r q4 (t++u0++[91]++u1) w4):=am;clear A am;obtain ⟨K,c1,c2,L,J⟩:=zF ((U.out.block _ (Nat.le_refl _) (by omega)).trans H.out)
 have z:=zt w0 r q4 (t++u0++[91]++u1) [93] w4 al.out (by simp)
 go_wp2_with fail
 refine z.mono ?_;clear z K c1 c2 L J;rintro e w5 ⟨q5,N,rfl,ae⟩;have Z:Hid (zp r q w w1 q5 w5):=U.out.step N;have an:Hid (zu w0 r q5 (t++u0++[91]++u1++[93]) w5):=ae;clear N ae;obtain ⟨K,c1,c2,L,J⟩:=zF ((Z.out.block _ (Nat.le_refl _) (by omega)).trans H.out)
 obtain rfl:R=some (u0++([91]++(u1++([93])))):=by rw [HR.out];rfl
 have HP:Hid (zk w0 r q t w (some (u0++([91]++(u1++([93]))))) (.returned (.tuple #[])) w5):=⟨q5,Z.out.unto,rfl,by have:=an.out;simpa only [List.append_assoc] using this⟩
 clear Y aa ab ad I V U al Z an K c1 c2 L J HR H ao ai O T;go_wp2
 exact bodyPost_ret (v:=.tuple #[]) (by simp [results,Tryz.results84,go_sem]) rfl HP.out
theorem zfO (w0:World) (d:Nat) (D:Int) (hD:D-1=(d:Int)) (_hD1:1≤D) (hD2:D≤24) (hX:yD w0 d) (hT:ZC w0) (hl:Zz w0) (s:List UInt8) (n:Int) (b o cap r:Nat) (line:Int) (q:Option Nat) (t:List UInt8) (w:World) (hs:s.length≤100000000) (h:zu w0 r q t w) (x0:Ez) (a01:Int) (a02:List UInt8) (a03:Int) (a04:Option Addr) (a05 a06:Nat) (a07:Int) (hx0:Zs w0.heap.size w0 x0 (yu a01 a02 a03 a04 a05 a06 a07)) (hk0:ZX w0 b (o) a01 a02 a03 a04 a05 a06 a07) :
  Calls Tryz.prog 84 #[.pointer (some ⟨r,0,none⟩),yu 9 s n (some ⟨b,o,none⟩) 1 cap line,.int .i64 D] w (zk w0 r q t w (zc (kidO x0 8 (prE d x0)) (zc (some [46]) (tokO 1 0 s)))):=by
 obtain ⟨R,hR⟩:∃R,R=zc (kidO x0 8 (prE d x0)) (zc (some [46]) (tokO 1 0 s)):=⟨_,rfl⟩;rw [←hR];have aj:Hid (∀(q:Option Nat) (t:List UInt8) (w:World),zu w0 r q t w→Calls Tryz.prog 124 #[.pointer (some ⟨r,0,none⟩),yu a01 a02 a03 a04 a05 a06 a07,.int .i64 ((8:Nat):Int),.int .i64 (d:Int)] w (zk w0 r q t w (kidO x0 (8) (prE d x0)))):=fun q t w h=>vX w0 d hX hl x0 _ (8) r q t w hx0 h
 have ae:Hid (∀(q:Option Nat) (t:List UInt8) (w:World),zu w0 r q t w→Calls Tryz.prog 82 #[.pointer (some ⟨r,0,none⟩),.string (zb s)] w (zk w0 r q t w (tokO 1 0 s))):=fun q t w h=>ym w0 r q t s w hT h hs
 obtain ⟨w1,y⟩:∃w1,w1=w.alloc (Yi 9 s n (some ⟨b,o,none⟩) 1 cap line):=⟨_,rfl⟩;have N:Below w.heap.size w w1:=by rw [y];exact (Below.refl _ w).alloc (Nat.le_refl _) _
 have p1:w1.heap[w.heap.size]?=some (Yi 9 s n (some ⟨b,o,none⟩) 1 cap line):=by rw [y];exact World.alloc_heap_new w _
 have ak:w1.heap.size=w.heap.size+1:=by rw [y];simp
 have af:=h.below N;have O:Hid (zp r q w w1 q w1):=zp.start h N;generalize kidO x0 8 (prE d x0)=X0 at *;generalize tokO 1 0 s=X1 at *;have HR:Hid (R=zc X0 (zc (some [46]) X1)):=hR;have V:Hid (zu w0 r q t w1):=af;have H:Hid (w1.heap[w.heap.size]?=some (Yi 9 s n (some ⟨b,o,none⟩) 1 cap line)):=p1;have J:Hid (ZX w0 b (o) a01 a02 a03 a04 a05 a06 a07):=hk0;have al:=y.symm;obtain ⟨T,c1,c2,U,Q⟩:=zF p1;clear hR af p1 y N h hX hl hT hx0 hk0
 go_enter Tryz.func84,Tryz.ntmps84
 have I:=aj.out q (t) w1 V.out;obtain ⟨k0,k1,k2,k3,k4⟩:=J.out.now V.out.env;go_wp2_with fail
 refine I.mono ?_;clear I T c1 c2 U Q k0 k1 k2 k3 k4;rintro e w2 ⟨q2,A,aa⟩;cases X0 with
 | none=>subst aa;obtain rfl:R=none:=(by rw [HR.out];rfl);exact ⟨rfl,q2,(O.out.step A).unto,rfl⟩
 | some u0 =>
 obtain ⟨rfl,ab⟩:=aa;have W:Hid (zp r q w w1 q2 w2):=O.out.step A;have Y:Hid (zu w0 r q2 (t++u0) w2):=ab;clear A ab;obtain ⟨T,c1,c2,U,Q⟩:=zF ((W.out.block _ (Nat.le_refl _) (by omega)).trans H.out)
 have I:=zt w0 r q2 (t++u0) [46] w2 Y.out (by simp)
 go_wp2_with fail
 refine I.mono ?_;clear I T c1 c2 U Q;rintro e w3 ⟨q3,K,rfl,ad⟩;have G:Hid (zp r q w w1 q3 w3):=W.out.step K;have Z:Hid (zu w0 r q3 (t++u0++[46]) w3):=ad;clear K ad;obtain ⟨T,c1,c2,U,Q⟩:=zF ((G.out.block _ (Nat.le_refl _) (by omega)).trans H.out)
 have I:=ae.out q3 (t++u0++[46]) w3 Z.out;go_wp2_with fail
 refine I.mono ?_;clear I T c1 c2 U Q;rintro e w4 ⟨q4,z,ag⟩;cases X1 with
 | none=>subst ag;obtain rfl:R=none:=(by rw [HR.out];rfl);exact ⟨rfl,q4,(G.out.step z).unto,rfl⟩
 | some u1 =>
 obtain ⟨rfl,ai⟩:=ag;have L:Hid (zp r q w w1 q4 w4):=G.out.step z;have ah:Hid (zu w0 r q4 (t++u0++[46]++u1) w4):=ai;clear z ai;obtain ⟨T,c1,c2,U,Q⟩:=zF ((L.out.block _ (Nat.le_refl _) (by omega)).trans H.out)
 obtain rfl:R=some (u0++([46]++(u1))):=by rw [HR.out];rfl
 have HP:Hid (zk w0 r q t w (some (u0++([46]++(u1)))) (.returned (.tuple #[])) w4):=⟨q4,L.out.unto,rfl,by have:=ah.out;simpa only [List.append_assoc] using this⟩
 clear O V W Y G Z L ah T c1 c2 U Q HR H aj ae J;go_wp2
 exact bodyPost_ret (v:=.tuple #[]) (by simp [results,Tryz.results84,go_sem]) rfl HP.out
end Go.Proofs.YtpejpbbdgblbeaaGreatDoor
