import Derived.Test.YtcphojjpapgblaaGreatDoorMC7
namespace Go.Proofs.YtcphojjpapgblaaGreatDoor
open Go.RowKit Go.Shelf
set_option maxHeartbeats 16000000
set_option maxRecDepth 100000
theorem Qk (l:List (Option (List UInt8))) {i:Nat} (h:rowO l i=none):∀k,rowO l (i+k)=none
 | 0=>h
 | k+1=>by
  show rowO l (i+k+1)=none
  rw [rowO,Qk l h k];rfl
theorem Ql (l:List (Option (List UInt8))) {i m:Nat} (hi:i<m) (h:(l[i]?).getD none=none):rowO l m=none:=by
 have o:rowO l (i+1)=none:=by
  rw [rowO,h]
  cases rowO l i <;> rfl
 have:=Qk l o (m-(i+1))
 rwa [show i+1+(m-(i+1))=m by omega] at this
theorem zhF {sz:Nat} {us:List (List Value)} (hfive:∀c∈us,c.length=sz) {i j:Nat} {c:List Value} (hc:us[i]?=some c) (hj:j<sz):us.flatten[i*sz+j]?=c[j]?:=by
 induction us generalizing i with
 | nil=>simp at hc
 | cons d us ih =>
  have hd:d.length=sz:=hfive d (by simp)
  cases i with
  | zero =>
   simp only [List.getElem?_cons_zero,Option.some.injEq] at hc;subst hc;rw [List.flatten_cons,List.getElem?_append_left (by omega)]
   simp
  | succ i =>
   have e:(i+1)*sz=i*sz+sz:=Nat.succ_mul i sz;rw [List.flatten_cons,List.getElem?_append_right (by omega)]
   rw [show (i+1)*sz+j-d.length=i*sz+j by omega]
   exact ih (fun c hc=>hfive c (by simp [hc])) (by simpa using hc)
theorem Zl.kid {B:Nat} {w:World} {k:Int} {s:List UInt8} {n:Int} {kids:List Ez} {line:Int} {v:Value} (h:Zl B w (.mk k s n kids line) v):∃base cap,v=yp k s n base kids.length cap line∧kids.length≤cap∧cap≤maxLen∧s.length≤100000000∧-9223372036854775808≤n∧n≤9223372036854775807 ∧
  ∀i x,kids[i]?=some x→∃b o A I G z D H a7,base=some ⟨b,o,none⟩∧b<B∧b<w.heap.size∧Zl B w x (yp A I G z D H a7) ∧
   w.cell? ⟨b,o+i*5,none⟩=some (.int .i64 A)∧w.cell? ⟨b,o+i*5+1,none⟩=some (.string (zb I))∧w.cell? ⟨b,o+i*5+2,none⟩=some (.int .i64 G)∧w.cell? ⟨b,o+i*5+3,none⟩=some (.slice z D H)∧w.cell? ⟨b,o+i*5+4,none⟩=some (.int .i64 a7):=by
 cases h with
 | mk k s n kids line base cap b o us hs hn0 hn1 hbase hlen hc hm hcell hfive hk =>
  refine ⟨base,cap,rfl,hc,hm,hs,hn0,hn1,fun i x hx=>?_⟩
  have W:i<kids.length:=(List.getElem?_eq_some_iff.1 hx).1;have Q:kids≠[]:=by rintro rfl;simp at W
  obtain ⟨N,R,T⟩:=hbase Q;obtain ⟨c,L⟩:∃c,us[i]?=some c:=⟨us[i]'(by omega),List.getElem?_eq_getElem (by omega)⟩
  have J:=hk i x c hx L
  obtain ⟨A,I,G,z,D,H,a7,U⟩:∃A I G z D H a7,Value.agg c.toArray=yp A I G z D H a7:=by
   generalize Value.agg c.toArray=V at J;cases J with
   | mk=>exact ⟨_,_,_,_,_,_,_,rfl⟩
  have O:c=[.int .i64 A,.string (zb I),.int .i64 G,.slice z D H,.int .i64 a7]:=by
   have:=congrArg (fun v=>match v with | .agg a=>a.toList | _=>[]) U
   simpa using this
  subst O
  have y:∀j u,j<5→([.int .i64 A,.string (zb I),.int .i64 G,.slice z D H,.int .i64 a7]:List Value)[j]?=some u→w.cell? ⟨b,o+i*5+j,none⟩=some u:=fun j u hj hu=>by
   rw [Nat.add_assoc];exact hcell _ _ ((zhF hfive L hj).trans hu)
  exact ⟨b,o,A,I,G,z,D,H,a7,N,R,T,J,y 0 _ (by omega) rfl,y 1 _ (by omega) rfl,y 2 _ (by omega) rfl,y 3 _ (by omega) rfl,y 4 _ (by omega) rfl⟩
theorem Vl (w0:World) (f:Ez→Option (List UInt8)) (l:List Ez) (base:Option Addr) (cap bw bd r:Nat) (q:Option Nat) (t:List UInt8) (w:World) (h:zy w0 r q t w) (hc:l.length≤cap) (hm:cap≤maxLen)
  (hl:∀i x,l[i]?=some x→∃b o N a2 a3 Q O V T,base=some ⟨b,o,none⟩∧b<w0.heap.size∧b<w0.heap.size∧Zl w0.heap.size w0 x (yp N a2 a3 Q O V T) ∧
   w0.cell? ⟨b,o+i*5,none⟩=some (.int .i64 N)∧w0.cell? ⟨b,o+i*5+1,none⟩=some (.string (zb a2))∧w0.cell? ⟨b,o+i*5+2,none⟩=some (.int .i64 a3)∧w0.cell? ⟨b,o+i*5+3,none⟩=some (.slice Q O V)∧w0.cell? ⟨b,o+i*5+4,none⟩=some (.int .i64 T))
  (hone:∀x v A t1 w1,x∈l→Zl w0.heap.size w0 x v→zy w0 r A t1 w1→zT r q w A w1→Calls Tryz.prog 77 #[v,.pointer (some ⟨bw,0,none⟩),.pointer (some ⟨bd,0,none⟩)] w1 (zn w0 r A t1 w1 (f x))) :
  Calls Tryz.prog 81 #[.pointer (some ⟨r,0,none⟩),.slice base l.length cap,.func (.func 77) #[] #[.pointer (some ⟨bw,0,none⟩),.pointer (some ⟨bd,0,none⟩)]] w (zn w0 r q t w (rowO (l.map f) l.length)):=by
 obtain ⟨n,hn⟩:∃n,n=l.length:=⟨_,rfl⟩;rw [←hn] at hc ⊢;have av:n≤9223372036854775807:=by unfold maxLen at hm;omega
 obtain ⟨R,hR⟩:∃R,R=rowO (l.map f) n:=⟨_,rfl⟩;rw [←hR];have HR:Hid (R=rowO (l.map f) n):=hR;have HN:Hid (n=l.length):=hn;have HC:=hl
 have al:Hid (∀i x,l[i]?=some x→∃b o N a2 a3 Q O V T,base=some ⟨b,o,none⟩∧b<w0.heap.size∧b<w0.heap.size∧Zl w0.heap.size w0 x (yp N a2 a3 Q O V T) ∧
   w0.cell? ⟨b,o+i*5,none⟩=some (.int .i64 N)∧w0.cell? ⟨b,o+i*5+1,none⟩=some (.string (zb a2))∧w0.cell? ⟨b,o+i*5+2,none⟩=some (.int .i64 a3)∧w0.cell? ⟨b,o+i*5+3,none⟩=some (.slice Q O V)∧w0.cell? ⟨b,o+i*5+4,none⟩=some (.int .i64 T)):=hl
 have U:Hid (∀x v A t1 w1,x∈l→Zl w0.heap.size w0 x v→zy w0 r A t1 w1→zT r q w A w1→Calls Tryz.prog 77 #[v,.pointer (some ⟨bw,0,none⟩),.pointer (some ⟨bd,0,none⟩)] w1 (zn w0 r A t1 w1 (f x))):=hone;have HW:Hid (zy w0 r q t w):=h;have az:=h.lt.1;have ay:=h.lt.2;clear HC hl hone h hn hR
 go_enter Tryz.func81,Tryz.ntmps81
 go_wp2_with fail
 go_loopw [10] (fun i wr=>∃(k:Nat) (A:Option Nat) (s:List UInt8),k≤n∧i=.int .i64 k∧zT r q w A wr∧rowO (l.map f) k=some s∧zy w0 r A (t++s) wr) (fun i _=>n-(intOf i).toNat)
 case atStart=>exact ⟨0,q,[],Nat.zero_le _,rfl,zT.refl _ _ _,rfl,by rw [List.append_nil];exact HW.out⟩
 case round =>
  obtain ⟨k,A,s,hk,rfl,aj,G,z⟩:=hrel
  by_cases hlt:k<n
  ·obtain ⟨x,hx⟩:∃x,l[k]?=some x:=⟨l[k]'(by rw [←HN.out];exact hlt),List.getElem?_eq_getElem (by rw [←HN.out];exact hlt)⟩
   obtain ⟨b,o,N,a2,a3,Q,O,V,T,rfl,L,-,ap,m0,m1,m2,m3,m4⟩:=al.out k x hx;have n0:=(z.env.cell (p:=⟨b,o+k*5,none⟩) L).trans m0;have n1:=(z.env.cell (p:=⟨b,o+k*5+1,none⟩) L).trans m1;have n2:=(z.env.cell (p:=⟨b,o+k*5+2,none⟩) L).trans m2;have n3:=(z.env.cell (p:=⟨b,o+k*5+3,none⟩) L).trans m3;have n4:=(z.env.cell (p:=⟨b,o+k*5+4,none⟩) L).trans m4;clear m0 m1 m2 m3 m4;have ao:(k:Int)<(n:Int):=by omega
   obtain ⟨I,H⟩:∃I,I=wr.alloc (yW N a2 a3 Q O V T):=⟨_,rfl⟩;have p2:I.heap[wr.heap.size]?=some (.cells #[.int .i64 N,.string (zb a2),.int .i64 a3,.slice Q O V,.int .i64 T] 45 (0,0)):=by rw [H];exact World.alloc_heap_new wr _
   have aw:I.heap.size=wr.heap.size+1:=by rw [H];simp
   have J:Hid (zT r q w A I):=show zT _ _ _ _ _ by rw [H];exact aj.alloc _
   have ai:Hid (zy w0 r A (t++s) I):=show zy _ _ _ _ _ by rw [H];exact z.alloc _
   have ax:=z.lt.1;have aq:=z.lt.2
   have D:∀W:World,W.heap[wr.heap.size]?=I.heap[wr.heap.size]?→W.cell? ⟨wr.heap.size,0,none⟩=some (.int .i64 N)∧W.cell? ⟨wr.heap.size,1,none⟩=some (.string (zb a2))∧W.cell? ⟨wr.heap.size,2,none⟩=some (.int .i64 a3)∧W.cell? ⟨wr.heap.size,3,none⟩=some (.slice Q O V)∧W.cell? ⟨wr.heap.size,4,none⟩=some (.int .i64 T):=fun W hW=>by
    rw [p2] at hW;refine ⟨?_,?_,?_,?_,?_⟩ <;> (simp only [World.cell?,hW];rfl)
   have ab:((l.map f)[k]?).getD none=f x:=by rw [List.getElem?_map,hx];rfl
   have af:Hid (f x=none→R=none):=fun h9=>by rw [HR.out];exact Ql _ hlt (by rw [ab,h9])
   have ak:Hid (∀u,f x=some u→rowO (l.map f) (k+1)=some (s++((if k=0 then [] else [44,32])++u))):=fun u h9=>by
    rw [rowO,G,ab,h9];rfl
   have cx:=fun q2 t2 W h1 h2=>U.out x _ q2 t2 W (List.mem_of_getElem? hx) ap h1 h2
   have ah:Hid (∀A t1 w1,zy w0 r A t1 w1→zT r q w A w1→Calls Tryz.prog 77 #[yp N a2 a3 Q O V T,.pointer (some ⟨bw,0,none⟩),.pointer (some ⟨bd,0,none⟩)] w1 (zn w0 r A t1 w1 (f x))):=cx;have Y:Hid (∀W:World,W.heap[wr.heap.size]?=I.heap[wr.heap.size]?→W.cell? ⟨wr.heap.size,0,none⟩=some (.int .i64 N)∧W.cell? ⟨wr.heap.size,1,none⟩=some (.string (zb a2))∧W.cell? ⟨wr.heap.size,2,none⟩=some (.int .i64 a3)∧W.cell? ⟨wr.heap.size,3,none⟩=some (.slice Q O V)∧W.cell? ⟨wr.heap.size,4,none⟩=some (.int .i64 T)):=D;have au:=H.symm;clear cx D ab ap aj z G al U HW H p2;generalize f x=X at *;rcases Nat.eq_zero_or_pos k with am | am
   ·subst am
    rw [Nat.zero_mul,Nat.add_zero] at n0 n1 n2 n3 n4;obtain ⟨c0,c1,c2,c3,c4⟩:=Y.out I rfl;have c:=ah.out A (t++s) I ai.out J.out;go_wp2_with fail
    refine c.mono ?_;clear c;rintro e w3 ⟨q3,y,hp⟩;cases X with
    | none=>subst hp;obtain rfl:=af.out rfl;exact ⟨rfl,q3,J.out.trans y,rfl⟩
    | some u =>
     obtain ⟨rfl,ad⟩:=hp;have ae:Hid (∃(k':Nat) (q':Option Nat) (s':List UInt8),k'=1∧zT r q w q' w3∧rowO (l.map f) k'=some s'∧zy w0 r q' (t++s') w3):=⟨1,q3,_,rfl,J.out.trans y,ak.out u rfl,by rw [if_pos trivial,List.nil_append,←List.append_assoc];exact ad⟩
     clear y ad ak af J ai ah Y c0 c1 c2 c3 c4;go_wp2
     obtain ⟨k',q',s',rfl,h1,h2,h3⟩:=ae.out;exact ⟨⟨1,q',s',by omega,by go_num,h1,h2,h3⟩,by simp [intOf];omega⟩
   ·have aB:(0:Int)<(k:Int):=by omega
    obtain ⟨c0,c1,c2,c3,c4⟩:=Y.out I rfl;have cp:=zw w0 r A (t++s) [44,32] I ai.out (by simp)
    go_wp2_with fail
    refine cp.mono ?_;clear cp c0 c1 c2 c3 c4;rintro e w3 ⟨q3,y,rfl,ad⟩;have aA:=y.size;have Z:w3.heap[wr.heap.size]?=I.heap[wr.heap.size]?:=y.block _ (by omega) (by omega) (fun e=>by have:=aq _ e;omega)
    obtain ⟨c0,c1,c2,c3,c4⟩:=Y.out w3 Z;have ag:Hid (zT r q w q3 w3):=J.out.trans y;have c:=ah.out q3 (t++s++[44,32]) w3 ad ag.out;clear y ad Z;go_wp2_with fail
    refine c.mono ?_;clear c;rintro e w4 ⟨q4,aa,hp⟩;cases X with
    | none=>subst hp;obtain rfl:=af.out rfl;exact ⟨rfl,q4,ag.out.trans aa,rfl⟩
    | some u =>
     obtain ⟨rfl,an⟩:=hp;have ae:Hid (∃(k':Nat) (q':Option Nat) (s':List UInt8),k'=k+1∧zT r q w q' w4∧rowO (l.map f) k'=some s'∧zy w0 r q' (t++s') w4):=⟨k+1,q4,_,rfl,ag.out.trans aa,ak.out u rfl,by rw [if_neg (by omega),←List.append_assoc,←List.append_assoc];exact an⟩
     clear aa an ak af J ag ai ah Y c0 c1 c2 c3 c4;go_wp2
     obtain ⟨k',q',s',rfl,h1,h2,h3⟩:=ae.out;exact ⟨⟨k+1,q',s',by omega,by go_num,h1,h2,h3⟩,by simp [intOf];omega⟩
  ·have ar:k=n:=by omega
   have ao:¬(k:Int)<(n:Int):=by omega
   have HP:Hid (zn w0 r q t w R (.returned (.tuple #[])) wr):=show zn _ _ _ _ _ _ _ _ by
    rw [HR.out,←ar,G];exact ⟨A,aj,rfl,z⟩
   clear aj z G al U HW;go_wp2
   exact bodyPost_ret (v:=.tuple #[]) (by simp [results,Tryz.results81,go_sem]) rfl HP.out
def lvK (k:Int) (s:List UInt8):Nat:=if k=7 then levelOf s else if k=6 then 7 else 8
theorem zh1 (k:Int) (s:List UInt8):lvK k s≤8:=by
 unfold lvK
 have:=YM s
 split
 ·omega
 ·split <;> omega
theorem qI (k:Int) (s:List UInt8) (n:Int) (base:Option Addr) (m cap:Nat) (line:Int) (w:World) (ht:ZA w) :
  Calls Tryz.prog 145 #[yp k s n base m cap line] w fun e w'=>e=.returned (.int .i64 (lvK k s:Int))∧Below w.heap.size w w':=by
 obtain ⟨w1,h⟩:∃w1,w1=w.alloc (yW k s n base m cap line):=⟨_,rfl⟩;have y:Below w.heap.size w w1:=by rw [h];exact (Below.refl _ w).alloc (Nat.le_refl _) _
 have z:w1.heap[w.heap.size]?=some (.cells #[.int .i64 k,.string (zb s),.int .i64 n,.slice base m cap,.int .i64 line] 45 (0,0)):=by rw [h];exact World.alloc_heap_new w _
 have O:w1.cell? ⟨w.heap.size,0,none⟩=some (.int .i64 k):=by simp only [World.cell?,z];rfl
 have c1:w1.cell? ⟨w.heap.size,1,none⟩=some (.string (zb s)):=by simp only [World.cell?,z];rfl
 have D:=Xy s w1 (fun j v hj=>by rw [h];exact zl (ht j v hj) _)
 have G:Hid (Below w.heap.size w w1):=y;have I:=h.symm;clear y z h ht
 by_cases h7:k=7
 ·have H:Hid (lvK k s=levelOf s):=show _=_ by unfold lvK;rw [if_pos h7]
  subst h7
  go_enter Tryz.func145,Tryz.ntmps145
  go_wp2_with fail
  refine D.mono ?_;rintro e J ⟨rfl,o⟩;have A:Hid (Below w.heap.size w J):=zt G.out o;clear o D;go_wp2
  exact bodyPost_ret (v:=.int .i64 (levelOf s:Int)) (by simp [results,Tryz.results145,go_sem]) rfl ⟨by rw [H.out],A.out⟩
 ·have L:(k==7)=false:=by rw [beq_eq_false_iff_ne];exact h7
  clear D
  by_cases h6:k=6
  ·subst h6
   go_enter Tryz.func145,Tryz.ntmps145
   go_wp2
   exact bodyPost_ret (v:=.int .i64 7) (by simp [results,Tryz.results145,go_sem]) rfl ⟨rfl,G.out⟩
  ·have N:(k==6)=false:=by rw [beq_eq_false_iff_ne];exact h6
   have H:Hid (lvK k s=8):=show _=_ by unfold lvK;rw [if_neg h7,if_neg h6]
   go_enter Tryz.func145,Tryz.ntmps145
   go_wp2
   exact bodyPost_ret (v:=.int .i64 8) (by simp [results,Tryz.results145,go_sem]) rfl ⟨by rw [H.out];rfl,G.out⟩
def yO (w0:World) (d:Nat):Prop:=∀(x:Ez) (v:Value) (r:Nat) (q:Option Nat) (t:List UInt8) (w:World),Zl w0.heap.size w0 x v→zy w0 r q t w→Calls Tryz.prog 40 #[.pointer (some ⟨r,0,none⟩),v,.int .i64 (d:Int)] w (zn w0 r q t w (prE d x))
theorem VH (w0:World) (d:Nat) (hX:yO w0 d) (hl:ZA w0) (x:Ez) (v:Value) (least r:Nat) (q:Option Nat) (t:List UInt8) (w:World) (hx:Zl w0.heap.size w0 x v) (h:zy w0 r q t w) :
  Calls Tryz.prog 122 #[.pointer (some ⟨r,0,none⟩),v,.int .i64 (least:Int),.int .i64 (d:Int)] w (zn w0 r q t w (kidO x least (prE d x))):=by
 have ah:=hx;obtain ⟨k,s,n,kids,line,base,D,b,o,us,hs,aw,ay,aa,ag,hc,hm,ad,ae,hk⟩:=hx;obtain ⟨w1,G⟩:∃w1,w1=w.alloc (yW k s n base kids.length D line):=⟨_,rfl⟩;have Z:Below w.heap.size w w1:=by rw [G];exact (Below.refl _ w).alloc (Nat.le_refl _) _
 have p1:w1.heap[w.heap.size]?=some (.cells #[.int .i64 k,.string (zb s),.int .i64 n,.slice base kids.length D,.int .i64 line] 45 (0,0)):=by rw [G];exact World.alloc_heap_new w _
 have h1:=h.below Z;have cl:=qI k s n base kids.length D line w1 (fun j v hj=>by rw [h1.env.cell (World.block_lt_of_cell? w0 _ (hl j v hj))];exact hl j v hj)
 have aq:w1.heap.size=w.heap.size+1:=by rw [G];simp
 have av:=zh1 k s;have HR:Hid (kidO (.mk k s n kids line) least (prE d (.mk k s n kids line))=if least≤lvK k s then prE d (.mk k s n kids line) else zd (some [40]) (zd (prE d (.mk k s n kids line)) (some [41]))):=rfl
 have T:Hid (∀(q:Option Nat) (t:List UInt8) (w:World),zy w0 r q t w→Calls Tryz.prog 40 #[.pointer (some ⟨r,0,none⟩),yp k s n base kids.length D line,.int .i64 (d:Int)] w (zn w0 r q t w (prE d (.mk k s n kids line)))):=fun q t w h=>hX _ _ r q t w ah h
 have hr:=h.lt.1;have H:=h.lt.2;generalize kidO (.mk k s n kids line) least (prE d (.mk k s n kids line))=R at *;generalize prE d (.mk k s n kids line)=X at *;generalize kids.length=m at *
 have y:∀W:World,W.heap[w.heap.size]?=w1.heap[w.heap.size]?→W.cell? ⟨w.heap.size,0,none⟩=some (.int .i64 k)∧W.cell? ⟨w.heap.size,1,none⟩=some (.string (zb s))∧W.cell? ⟨w.heap.size,2,none⟩=some (.int .i64 n)∧W.cell? ⟨w.heap.size,3,none⟩=some (.slice base m D)∧W.cell? ⟨w.heap.size,4,none⟩=some (.int .i64 line):=fun W hW=>by
  rw [p1] at hW;refine ⟨?_,?_,?_,?_,?_⟩ <;> (simp only [World.cell?,hW];rfl)
 have O:Hid (∀W:World,W.heap[w.heap.size]?=w1.heap[w.heap.size]?→W.cell? ⟨w.heap.size,0,none⟩=some (.int .i64 k)∧W.cell? ⟨w.heap.size,1,none⟩=some (.string (zb s))∧W.cell? ⟨w.heap.size,2,none⟩=some (.int .i64 n)∧W.cell? ⟨w.heap.size,3,none⟩=some (.slice base m D)∧W.cell? ⟨w.heap.size,4,none⟩=some (.int .i64 line)):=y;obtain ⟨c0,c1,c2,c3,c4⟩:=y w1 rfl;have an:Hid (zy w0 r q t w1):=h1;have aj:Hid (zT r q w q w1):=zT.below Z;have ap:=G.symm;clear G p1 Z h1 h ah y hX hl aa ag hc ad ae hk;generalize hLV:lvK k s=L at *;clear hLV
 go_enter Tryz.func122,Tryz.ntmps122
 go_wp2_with fail
 refine cl.mono ?_;clear cl;rintro e w2 ⟨rfl,A⟩;obtain ⟨c0,c1,c2,c3,c4⟩:=O.out w2 (A.block _ (by omega))
 have ar:=A.size;have ab:Hid (w2.heap[w.heap.size]?=w1.heap[w.heap.size]?):=A.block _ (by omega)
 have Q:Hid (zy w0 r q t w2):=an.out.below A;have U:Hid (zT r q w q w2):=aj.out.trans (zT.below A);clear A an aj;have hR:=HR.out;clear HR
 by_cases hle:least≤L
 ·rw [if_pos hle] at hR
  subst hR;have cx:=T.out q t w2 Q.out;have h9:(least:Int)≤(L:Int):=by omega
  go_wp2_with fail
  refine cx.mono ?_;clear cx;rintro e V ⟨q3,ak,hp⟩;have I:=U.out.trans ak;cases R with
  | none=>subst hp;exact ⟨rfl,q3,I,rfl⟩
  | some u =>
   obtain ⟨rfl,hw⟩:=hp;have HP:Hid (zn w0 r q t w (some u) (.returned (.tuple #[])) V):=⟨q3,I,rfl,hw⟩;clear ak hw I U Q T O ab;go_wp2
   exact bodyPost_ret (v:=.tuple #[]) (by simp [results,Tryz.results122,go_sem]) rfl HP.out
 ·rw [if_neg hle] at hR
  subst hR;have cp:=zw w0 r q t [40] w2 Q.out (by simp)
  have h9:¬ (least:Int)≤(L:Int):=by omega
  go_wp2_with fail
  refine cp.mono ?_;clear cp;rintro e V ⟨q3,z,rfl,ao⟩;have N:Hid (zT r q w q3 V):=U.out.trans z;have Y:V.heap[w.heap.size]?=w2.heap[w.heap.size]?:=z.block _ (by omega) (by omega) (fun e=>by have:=H _ e;omega)
  have am:Hid (V.heap[w.heap.size]?=w1.heap[w.heap.size]?):=Y.trans ab.out;obtain ⟨c0,c1,c2,c3,c4⟩:=O.out V am.out;have cx:=T.out q3 (t++[40]) V ao;have ax:=z.size
  have au:∀k,q3=some k→k≠w.heap.size:=fun k hk=>by
   rcases N.out.row with e | e
   ·have:=H k (e ▸ hk);omega
   ·rcases z.row with e2 | e2
    ·have:=H k (e2 ▸ hk);omega
    ·have:=e2 k hk;omega
  clear z ao Y;go_wp2_with fail
  refine cx.mono ?_;clear cx;rintro e w4 ⟨q4,J,hp⟩;cases X with
  | none=>subst hp;exact ⟨rfl,zn.seq N.out (zn.stop J rfl)⟩
  | some u =>
   obtain ⟨rfl,af⟩:=hp;have al:Hid (zT r q3 V q4 w4):=J;have cp:=zw w0 r q4 (t++[40]++u) [41] w4 af (by simp)
   clear J af;go_wp2_with fail
   refine cp.mono ?_;clear cp;rintro e w5 ai;have HP:Hid (zn w0 r q t w (zd (some [40]) (zd (some u) (some [41]))) e w5):=zn.seq N.out (zn.seq al.out ai);obtain ⟨-,-,rfl,-⟩:=ai;clear N al Q U T O ab am;go_wp2
   exact bodyPost_ret (v:=.tuple #[]) (by simp [results,Tryz.results122,go_sem]) rfl HP.out
structure zp (r:Nat) (q0:Option Nat) (w w1:World) (q:Option Nat) (W:World):Prop where
 unto:zT r q0 w q W
 hr:r<w.heap.size
 block:∀k,w.heap.size≤k→k<w1.heap.size→W.heap[k]?=w1.heap[k]?
 hq:∀k,q=some k→k<w.heap.size∨w1.heap.size≤k
 size:w1.heap.size≤W.heap.size
theorem zp.step {r:Nat} {q0 q q':Option Nat} {w w1 W W':World} (h:zp r q0 w w1 q W) (ht:zT r q W q' W'):zp r q0 w w1 q' W':=by
 refine ⟨h.unto.trans ht,h.hr,fun k h1 h2=>?_,fun k hk=>?_,Nat.le_trans h.size ht.size⟩
 ·refine (ht.block k (Nat.lt_of_lt_of_le h2 h.size) (by have:=h.hr;omega) fun e=>?_).trans (h.block k h1 h2)
  rcases h.hq k e with o | o <;> omega
 ·rcases ht.row with e | e
  ·exact h.hq k (e ▸ hk)
  ·exact .inr (Nat.le_trans h.size (e k hk))
theorem zp.start {w0:World} {r:Nat} {q:Option Nat} {t:List UInt8} {w w1:World} (h:zy w0 r q t w) (hb:Below w.heap.size w w1):zp r q w w1 q w1 :=
 ⟨zT.below hb,h.lt.1,fun _ _ _=>rfl,fun k hk=>.inl (h.lt.2 k hk),Nat.le_refl _⟩
theorem zF {w:World} {N:Nat} {k:Int} {s:List UInt8} {n:Int} {base:Option Addr} {m cap:Nat} {line:Int} (p:w.heap[N]?=some (yW k s n base m cap line)) :
  w.cell? ⟨N,0,none⟩=some (.int .i64 k)∧w.cell? ⟨N,1,none⟩=some (.string (zb s))∧w.cell? ⟨N,2,none⟩=some (.int .i64 n)∧w.cell? ⟨N,3,none⟩=some (.slice base m cap)∧w.cell? ⟨N,4,none⟩=some (.int .i64 line):=by
 refine ⟨?_,?_,?_,?_,?_⟩ <;> (simp only [World.cell?,p];rfl)
structure ZW (w0:World) (b p:Nat) (a1:Int) (a2:List UInt8) (a3:Int) (a4:Option Addr) (a5 a6:Nat) (a7:Int):Prop where
 lt:b<w0.heap.size
 c0:w0.cell? ⟨b,p,none⟩=some (.int .i64 a1)
 c1:w0.cell? ⟨b,p+1,none⟩=some (.string (zb a2))
 c2:w0.cell? ⟨b,p+2,none⟩=some (.int .i64 a3)
 c3:w0.cell? ⟨b,p+3,none⟩=some (.slice a4 a5 a6)
 c4:w0.cell? ⟨b,p+4,none⟩=some (.int .i64 a7)
theorem ZW.now {w0 w:World} {b p:Nat} {a1:Int} {a2:List UInt8} {a3:Int} {a4:Option Addr} {a5 a6:Nat} {a7:Int} (h:ZW w0 b p a1 a2 a3 a4 a5 a6 a7) (hb:Below w0.heap.size w0 w) :
  w.cell? ⟨b,p,none⟩=some (.int .i64 a1)∧w.cell? ⟨b,p+1,none⟩=some (.string (zb a2))∧w.cell? ⟨b,p+2,none⟩=some (.int .i64 a3)∧w.cell? ⟨b,p+3,none⟩=some (.slice a4 a5 a6)∧w.cell? ⟨b,p+4,none⟩=some (.int .i64 a7) :=
 ⟨(hb.cell h.lt).trans h.c0,(hb.cell h.lt).trans h.c1,(hb.cell h.lt).trans h.c2,(hb.cell h.lt).trans h.c3,(hb.cell h.lt).trans h.c4⟩
theorem zh2 (w0:World) (d:Nat) (D:Int) (hD:D-1=(d:Int)) (_hD1:1≤D) (hD2:D≤24) (hX:yO w0 d) (hl:ZA w0) (s:List UInt8) (n:Int) (b o cap r:Nat) (line:Int) (q:Option Nat) (t:List UInt8) (w:World) (hs:s.length≤100000000) (h:zy w0 r q t w) (x0:Ez) (a01:Int) (a02:List UInt8) (a03:Int) (a04:Option Addr) (a05 a06:Nat) (a07:Int) (hx0:Zl w0.heap.size w0 x0 (yp a01 a02 a03 a04 a05 a06 a07)) (hk0:ZW w0 b (o) a01 a02 a03 a04 a05 a06 a07) :
  Calls Tryz.prog 82 #[.pointer (some ⟨r,0,none⟩),yp 6 s n (some ⟨b,o,none⟩) 1 cap line,.int .i64 D] w (zn w0 r q t w (zd (some s) (kidO x0 7 (prE d x0)))):=by
 obtain ⟨R,hR⟩:∃R,R=zd (some s) (kidO x0 7 (prE d x0)):=⟨_,rfl⟩;rw [←hR];have V:Hid (∀(q:Option Nat) (t:List UInt8) (w:World),zy w0 r q t w→Calls Tryz.prog 122 #[.pointer (some ⟨r,0,none⟩),yp a01 a02 a03 a04 a05 a06 a07,.int .i64 ((7:Nat):Int),.int .i64 (d:Int)] w (zn w0 r q t w (kidO x0 (7) (prE d x0)))):=fun q t w h=>VH w0 d hX hl x0 _ (7) r q t w hx0 h
 obtain ⟨w1,z⟩:∃w1,w1=w.alloc (yW 6 s n (some ⟨b,o,none⟩) 1 cap line):=⟨_,rfl⟩;have I:Below w.heap.size w w1:=by rw [z];exact (Below.refl _ w).alloc (Nat.le_refl _) _
 have p1:w1.heap[w.heap.size]?=some (yW 6 s n (some ⟨b,o,none⟩) 1 cap line):=by rw [z];exact World.alloc_heap_new w _
 have af:w1.heap.size=w.heap.size+1:=by rw [z];simp
 have Q:=h.below I;have ab:Hid (zp r q w w1 q w1):=zp.start h I;generalize kidO x0 7 (prE d x0)=X0 at *;have HR:Hid (R=zd (some s) X0):=hR;have ad:Hid (zy w0 r q t w1):=Q;have N:Hid (w1.heap[w.heap.size]?=some (yW 6 s n (some ⟨b,o,none⟩) 1 cap line)):=p1;have H:Hid (ZW w0 b (o) a01 a02 a03 a04 a05 a06 a07):=hk0;have ae:=z.symm;obtain ⟨W,c1,c2,U,X⟩:=zF p1;clear hR Q p1 z I h hX hl hx0 hk0
 go_enter Tryz.func82,Tryz.ntmps82
 have T:=zw w0 r q (t) s w1 ad.out (by omega)
 go_wp2_with fail
 refine T.mono ?_;clear T W c1 c2 U X;rintro e w2 ⟨q2,G,rfl,Y⟩;have A:Hid (zp r q w w1 q2 w2):=ab.out.step G;have J:Hid (zy w0 r q2 (t++s) w2):=Y;clear G Y;obtain ⟨W,c1,c2,U,X⟩:=zF ((A.out.block _ (Nat.le_refl _) (by omega)).trans N.out)
 have T:=V.out q2 (t++s) w2 J.out;obtain ⟨k0,k1,k2,k3,k4⟩:=H.out.now J.out.env;go_wp2_with fail
 refine T.mono ?_;clear T W c1 c2 U X k0 k1 k2 k3 k4;rintro e w3 ⟨q3,y,Z⟩;cases X0 with
 | none=>subst Z;obtain rfl:R=none:=(by rw [HR.out];rfl);exact ⟨rfl,q3,(A.out.step y).unto,rfl⟩
 | some u0 =>
 obtain ⟨rfl,aa⟩:=Z;have L:Hid (zp r q w w1 q3 w3):=A.out.step y;have O:Hid (zy w0 r q3 (t++s++u0) w3):=aa;clear y aa;obtain ⟨W,c1,c2,U,X⟩:=zF ((L.out.block _ (Nat.le_refl _) (by omega)).trans N.out)
 obtain rfl:R=some (s++(u0)):=by rw [HR.out];rfl
 have HP:Hid (zn w0 r q t w (some (s++(u0))) (.returned (.tuple #[])) w3):=⟨q3,L.out.unto,rfl,by have:=O.out;simpa only [List.append_assoc] using this⟩
 clear ab ad A J L O W c1 c2 U X HR N V H;go_wp2
 exact bodyPost_ret (v:=.tuple #[]) (by simp [results,Tryz.results82,go_sem]) rfl HP.out
theorem zh3 (w0:World) (d:Nat) (D:Int) (hD:D-1=(d:Int)) (_hD1:1≤D) (hD2:D≤24) (hX:yO w0 d) (hl:ZA w0) (s:List UInt8) (n:Int) (b o cap r:Nat) (line:Int) (q:Option Nat) (t:List UInt8) (w:World) (hs:s.length≤100000000) (h:zy w0 r q t w) (x0:Ez) (a01:Int) (a02:List UInt8) (a03:Int) (a04:Option Addr) (a05 a06:Nat) (a07:Int) (hx0:Zl w0.heap.size w0 x0 (yp a01 a02 a03 a04 a05 a06 a07)) (hk0:ZW w0 b (o) a01 a02 a03 a04 a05 a06 a07) (x1:Ez) (a11:Int) (a12:List UInt8) (a13:Int) (a14:Option Addr) (a15 a16:Nat) (a17:Int) (hx1:Zl w0.heap.size w0 x1 (yp a11 a12 a13 a14 a15 a16 a17)) (hk1:ZW w0 b (o+5) a11 a12 a13 a14 a15 a16 a17) :
  Calls Tryz.prog 82 #[.pointer (some ⟨r,0,none⟩),yp 7 s n (some ⟨b,o,none⟩) 2 cap line,.int .i64 D] w (zn w0 r q t w (zd (kidO x0 (levelOf s) (prE d x0)) (zd (some [32]) (zd (some s) (zd (some [32]) (kidO x1 (levelOf s+1) (prE d x1))))))):=by
 obtain ⟨R,hR⟩:∃R,R=zd (kidO x0 (levelOf s) (prE d x0)) (zd (some [32]) (zd (some s) (zd (some [32]) (kidO x1 (levelOf s+1) (prE d x1))))):=⟨_,rfl⟩;rw [←hR];have af:Hid (∀(q:Option Nat) (t:List UInt8) (w:World),zy w0 r q t w→Calls Tryz.prog 122 #[.pointer (some ⟨r,0,none⟩),yp a01 a02 a03 a04 a05 a06 a07,.int .i64 (((levelOf s):Nat):Int),.int .i64 (d:Int)] w (zn w0 r q t w (kidO x0 ((levelOf s)) (prE d x0)))):=fun q t w h=>VH w0 d hX hl x0 _ ((levelOf s)) r q t w hx0 h
 have Z:Hid (∀(q:Option Nat) (t:List UInt8) (w:World),zy w0 r q t w→Calls Tryz.prog 122 #[.pointer (some ⟨r,0,none⟩),yp a11 a12 a13 a14 a15 a16 a17,.int .i64 (((levelOf s+1):Nat):Int),.int .i64 (d:Int)] w (zn w0 r q t w (kidO x1 ((levelOf s+1)) (prE d x1)))):=fun q t w h=>VH w0 d hX hl x1 _ ((levelOf s+1)) r q t w hx1 h
 obtain ⟨w1,J⟩:∃w1,w1=w.alloc (yW 7 s n (some ⟨b,o,none⟩) 2 cap line):=⟨_,rfl⟩;have Y:Below w.heap.size w w1:=by rw [J];exact (Below.refl _ w).alloc (Nat.le_refl _) _
 have p1:w1.heap[w.heap.size]?=some (yW 7 s n (some ⟨b,o,none⟩) 2 cap line):=by rw [J];exact World.alloc_heap_new w _
 have aB:w1.heap.size=w.heap.size+1:=by rw [J];simp
 have aa:=h.below Y;have ay:Hid (zp r q w w1 q w1):=zp.start h Y;have cl:=Xy s w1 (fun j v hj=>by rw [aa.env.cell (World.block_lt_of_cell? w0 _ (hl j v hj))];exact hl j v hj)
 have aw:=YM s;obtain ⟨L,hL⟩:∃L,L=levelOf s:=⟨_,rfl⟩;rw [←hL] at cl aw hR af Z;clear hL;generalize kidO x0 L (prE d x0)=X0 at *;generalize kidO x1 (L+1) (prE d x1)=X1 at *;have HR:Hid (R=zd X0 (zd (some [32]) (zd (some s) (zd (some [32]) X1)))):=hR;have az:Hid (zy w0 r q t w1):=aa;have y:Hid (w1.heap[w.heap.size]?=some (yW 7 s n (some ⟨b,o,none⟩) 2 cap line)):=p1;have W:Hid (ZW w0 b (o) a01 a02 a03 a04 a05 a06 a07):=hk0;have T:Hid (ZW w0 b (o+5) a11 a12 a13 a14 a15 a16 a17):=hk1;have aA:=J.symm;obtain ⟨G,c1,c2,A,H⟩:=zF p1;clear hR aa p1 J Y h hX hl hx0 hk0 hx1 hk1
 go_enter Tryz.func82,Tryz.ntmps82
 go_wp2_with fail
 refine cl.mono ?_;clear cl G c1 c2 A H;rintro e w2 ⟨rfl,ad⟩;have O:Hid (zp r q w w1 q w2):=ay.out.step (zT.below ad);have ab:Hid (zy w0 r q (t) w2):=az.out.below ad;clear ad;obtain ⟨G,c1,c2,A,H⟩:=zF ((O.out.block _ (Nat.le_refl _) (by omega)).trans y.out)
 have z:=af.out q (t) w2 ab.out;obtain ⟨k0,k1,k2,k3,k4⟩:=W.out.now ab.out.env;go_wp2_with fail
 refine z.mono ?_;clear z G c1 c2 A H k0 k1 k2 k3 k4;rintro e w3 ⟨q3,I,au⟩;cases X0 with
 | none=>subst au;obtain rfl:R=none:=(by rw [HR.out];rfl);exact ⟨rfl,q3,(O.out.step I).unto,rfl⟩
 | some u0 =>
 obtain ⟨rfl,ax⟩:=au;have ae:Hid (zp r q w w1 q3 w3):=O.out.step I;have ak:Hid (zy w0 r q3 (t++u0) w3):=ax;clear I ax;obtain ⟨G,c1,c2,A,H⟩:=zF ((ae.out.block _ (Nat.le_refl _) (by omega)).trans y.out)
 have z:=zw w0 r q3 (t++u0) [32] w3 ak.out (by simp)
 go_wp2_with fail
 refine z.mono ?_;clear z G c1 c2 A H;rintro e w4 ⟨q4,V,rfl,ap⟩;have ah:Hid (zp r q w w1 q4 w4):=ae.out.step V;have an:Hid (zy w0 r q4 (t++u0++[32]) w4):=ap;clear V ap;obtain ⟨G,c1,c2,A,H⟩:=zF ((ah.out.block _ (Nat.le_refl _) (by omega)).trans y.out)
 have z:=zw w0 r q4 (t++u0++[32]) s w4 an.out (by omega)
 go_wp2_with fail
 refine z.mono ?_;clear z G c1 c2 A H;rintro e w5 ⟨q5,U,rfl,av⟩;have ai:Hid (zp r q w w1 q5 w5):=ah.out.step U;have aq:Hid (zy w0 r q5 (t++u0++[32]++s) w5):=av;clear U av;obtain ⟨G,c1,c2,A,H⟩:=zF ((ai.out.block _ (Nat.le_refl _) (by omega)).trans y.out)
 have z:=zw w0 r q5 (t++u0++[32]++s) [32] w5 aq.out (by simp)
 go_wp2_with fail
 refine z.mono ?_;clear z G c1 c2 A H;rintro e w6 ⟨q6,X,rfl,ar⟩;have Q:Hid (zp r q w w1 q6 w6):=ai.out.step X;have aj:Hid (zy w0 r q6 (t++u0++[32]++s++[32]) w6):=ar;clear X ar;obtain ⟨G,c1,c2,A,H⟩:=zF ((Q.out.block _ (Nat.le_refl _) (by omega)).trans y.out)
 have z:=Z.out q6 (t++u0++[32]++s++[32]) w6 aj.out;obtain ⟨k0,k1,k2,k3,k4⟩:=T.out.now aj.out.env;go_wp2_with fail
 refine z.mono ?_;clear z G c1 c2 A H k0 k1 k2 k3 k4;rintro e w7 ⟨q7,N,ao⟩;cases X1 with
 | none=>subst ao;obtain rfl:R=none:=(by rw [HR.out];rfl);exact ⟨rfl,q7,(Q.out.step N).unto,rfl⟩
 | some u1 =>
 obtain ⟨rfl,al⟩:=ao;have ag:Hid (zp r q w w1 q7 w7):=Q.out.step N;have am:Hid (zy w0 r q7 (t++u0++[32]++s++[32]++u1) w7):=al;clear N al;obtain ⟨G,c1,c2,A,H⟩:=zF ((ag.out.block _ (Nat.le_refl _) (by omega)).trans y.out)
 obtain rfl:R=some (u0++([32]++(s++([32]++(u1))))):=by rw [HR.out];rfl
 have HP:Hid (zn w0 r q t w (some (u0++([32]++(s++([32]++(u1)))))) (.returned (.tuple #[])) w7):=⟨q7,ag.out.unto,rfl,by have:=am.out;simpa only [List.append_assoc] using this⟩
 clear ay az O ab ae ak ah an ai aq Q aj ag am G c1 c2 A H HR y af Z W T;go_wp2
 exact bodyPost_ret (v:=.tuple #[]) (by simp [results,Tryz.results82,go_sem]) rfl HP.out
theorem zh4 (w0:World) (d:Nat) (D:Int) (hD:D-1=(d:Int)) (_hD1:1≤D) (hD2:D≤24) (hX:yO w0 d) (hl:ZA w0) (s:List UInt8) (n:Int) (b o cap r:Nat) (line:Int) (q:Option Nat) (t:List UInt8) (w:World) (h:zy w0 r q t w) (x0:Ez) (a01:Int) (a02:List UInt8) (a03:Int) (a04:Option Addr) (a05 a06:Nat) (a07:Int) (hx0:Zl w0.heap.size w0 x0 (yp a01 a02 a03 a04 a05 a06 a07)) (hk0:ZW w0 b (o) a01 a02 a03 a04 a05 a06 a07) (x1:Ez) (a11:Int) (a12:List UInt8) (a13:Int) (a14:Option Addr) (a15 a16:Nat) (a17:Int) (hx1:Zl w0.heap.size w0 x1 (yp a11 a12 a13 a14 a15 a16 a17)) (hk1:ZW w0 b (o+5) a11 a12 a13 a14 a15 a16 a17) :
  Calls Tryz.prog 82 #[.pointer (some ⟨r,0,none⟩),yp 8 s n (some ⟨b,o,none⟩) 2 cap line,.int .i64 D] w (zn w0 r q t w (zd (kidO x0 8 (prE d x0)) (zd (some [91]) (zd (prE d x1) (some [93]))))):=by
 obtain ⟨R,hR⟩:∃R,R=zd (kidO x0 8 (prE d x0)) (zd (some [91]) (zd (prE d x1) (some [93]))):=⟨_,rfl⟩;rw [←hR];have ah:Hid (∀(q:Option Nat) (t:List UInt8) (w:World),zy w0 r q t w→Calls Tryz.prog 122 #[.pointer (some ⟨r,0,none⟩),yp a01 a02 a03 a04 a05 a06 a07,.int .i64 ((8:Nat):Int),.int .i64 (d:Int)] w (zn w0 r q t w (kidO x0 (8) (prE d x0)))):=fun q t w h=>VH w0 d hX hl x0 _ (8) r q t w hx0 h
 have ad:Hid (∀(q:Option Nat) (t:List UInt8) (w:World),zy w0 r q t w→Calls Tryz.prog 40 #[.pointer (some ⟨r,0,none⟩),yp a11 a12 a13 a14 a15 a16 a17,.int .i64 (d:Int)] w (zn w0 r q t w (prE d x1))):=fun q t w h=>hX x1 _ r q t w hx1 h
 obtain ⟨w1,A⟩:∃w1,w1=w.alloc (yW 8 s n (some ⟨b,o,none⟩) 2 cap line):=⟨_,rfl⟩;have W:Below w.heap.size w w1:=by rw [A];exact (Below.refl _ w).alloc (Nat.le_refl _) _
 have p1:w1.heap[w.heap.size]?=some (yW 8 s n (some ⟨b,o,none⟩) 2 cap line):=by rw [A];exact World.alloc_heap_new w _
 have aq:w1.heap.size=w.heap.size+1:=by rw [A];simp
 have ae:=h.below W;have aa:Hid (zp r q w w1 q w1):=zp.start h W;generalize kidO x0 8 (prE d x0)=X0 at *;generalize prE d x1=X1 at *;have HR:Hid (R=zd X0 (zd (some [91]) (zd X1 (some [93])))):=hR;have ab:Hid (zy w0 r q t w1):=ae;have H:Hid (w1.heap[w.heap.size]?=some (yW 8 s n (some ⟨b,o,none⟩) 2 cap line)):=p1;have U:Hid (ZW w0 b (o) a01 a02 a03 a04 a05 a06 a07):=hk0;have O:Hid (ZW w0 b (o+5) a11 a12 a13 a14 a15 a16 a17):=hk1;have ap:=A.symm;obtain ⟨L,c1,c2,I,N⟩:=zF p1;clear hR ae p1 A W h hX hl hx0 hk0 hx1 hk1
 go_enter Tryz.func82,Tryz.ntmps82
 have z:=ah.out q (t) w1 ab.out;obtain ⟨k0,k1,k2,k3,k4⟩:=U.out.now ab.out.env;go_wp2_with fail
 refine z.mono ?_;clear z L c1 c2 I N k0 k1 k2 k3 k4;rintro e w2 ⟨q2,G,af⟩;cases X0 with
 | none=>subst af;obtain rfl:R=none:=(by rw [HR.out];rfl);exact ⟨rfl,q2,(aa.out.step G).unto,rfl⟩
 | some u0 =>
 obtain ⟨rfl,am⟩:=af;have X:Hid (zp r q w w1 q2 w2):=aa.out.step G;have ag:Hid (zy w0 r q2 (t++u0) w2):=am;clear G am;obtain ⟨L,c1,c2,I,N⟩:=zF ((X.out.block _ (Nat.le_refl _) (by omega)).trans H.out)
 have z:=zw w0 r q2 (t++u0) [91] w2 ag.out (by simp)
 go_wp2_with fail
 refine z.mono ?_;clear z L c1 c2 I N;rintro e w3 ⟨q3,T,rfl,ao⟩;have J:Hid (zp r q w w1 q3 w3):=X.out.step T;have V:Hid (zy w0 r q3 (t++u0++[91]) w3):=ao;clear T ao;obtain ⟨L,c1,c2,I,N⟩:=zF ((J.out.block _ (Nat.le_refl _) (by omega)).trans H.out)
 have z:=ad.out q3 (t++u0++[91]) w3 V.out;obtain ⟨k0,k1,k2,k3,k4⟩:=O.out.now V.out.env;go_wp2_with fail
 refine z.mono ?_;clear z L c1 c2 I N k0 k1 k2 k3 k4;rintro e w4 ⟨q4,y,ak⟩;cases X1 with
 | none=>subst ak;obtain rfl:R=none:=(by rw [HR.out];rfl);exact ⟨rfl,q4,(J.out.step y).unto,rfl⟩
 | some u1 =>
 obtain ⟨rfl,aj⟩:=ak;have Y:Hid (zp r q w w1 q4 w4):=J.out.step y;have ai:Hid (zy w0 r q4 (t++u0++[91]++u1) w4):=aj;clear y aj;obtain ⟨L,c1,c2,I,N⟩:=zF ((Y.out.block _ (Nat.le_refl _) (by omega)).trans H.out)
 have z:=zw w0 r q4 (t++u0++[91]++u1) [93] w4 ai.out (by simp)
 go_wp2_with fail
 refine z.mono ?_;clear z L c1 c2 I N;rintro e w5 ⟨q5,Q,rfl,an⟩;have Z:Hid (zp r q w w1 q5 w5):=Y.out.step Q;have al:Hid (zy w0 r q5 (t++u0++[91]++u1++[93]) w5):=an;clear Q an;obtain ⟨L,c1,c2,I,N⟩:=zF ((Z.out.block _ (Nat.le_refl _) (by omega)).trans H.out)
 obtain rfl:R=some (u0++([91]++(u1++([93])))):=by rw [HR.out];rfl
 have HP:Hid (zn w0 r q t w (some (u0++([91]++(u1++([93]))))) (.returned (.tuple #[])) w5):=⟨q5,Z.out.unto,rfl,by have:=al.out;simpa only [List.append_assoc] using this⟩
 clear aa ab X ag J V Y ai Z al L c1 c2 I N HR H ah ad U O;go_wp2
 exact bodyPost_ret (v:=.tuple #[]) (by simp [results,Tryz.results82,go_sem]) rfl HP.out
theorem zh5 (w0:World) (d:Nat) (D:Int) (hD:D-1=(d:Int)) (_hD1:1≤D) (hD2:D≤24) (hX:yO w0 d) (hT:ZC w0) (hl:ZA w0) (s:List UInt8) (n:Int) (b o cap r:Nat) (line:Int) (q:Option Nat) (t:List UInt8) (w:World) (hs:s.length≤100000000) (h:zy w0 r q t w) (x0:Ez) (a01:Int) (a02:List UInt8) (a03:Int) (a04:Option Addr) (a05 a06:Nat) (a07:Int) (hx0:Zl w0.heap.size w0 x0 (yp a01 a02 a03 a04 a05 a06 a07)) (hk0:ZW w0 b (o) a01 a02 a03 a04 a05 a06 a07) :
  Calls Tryz.prog 82 #[.pointer (some ⟨r,0,none⟩),yp 9 s n (some ⟨b,o,none⟩) 1 cap line,.int .i64 D] w (zn w0 r q t w (zd (kidO x0 8 (prE d x0)) (zd (some [46]) (tokO 1 0 s)))):=by
 obtain ⟨R,hR⟩:∃R,R=zd (kidO x0 8 (prE d x0)) (zd (some [46]) (tokO 1 0 s)):=⟨_,rfl⟩;rw [←hR];have ae:Hid (∀(q:Option Nat) (t:List UInt8) (w:World),zy w0 r q t w→Calls Tryz.prog 122 #[.pointer (some ⟨r,0,none⟩),yp a01 a02 a03 a04 a05 a06 a07,.int .i64 ((8:Nat):Int),.int .i64 (d:Int)] w (zn w0 r q t w (kidO x0 (8) (prE d x0)))):=fun q t w h=>VH w0 d hX hl x0 _ (8) r q t w hx0 h
 have Z:Hid (∀(q:Option Nat) (t:List UInt8) (w:World),zy w0 r q t w→Calls Tryz.prog 80 #[.pointer (some ⟨r,0,none⟩),.string (zb s)] w (zn w0 r q t w (tokO 1 0 s))):=fun q t w h=>yu w0 r q t s w hT h hs
 obtain ⟨w1,z⟩:∃w1,w1=w.alloc (yW 9 s n (some ⟨b,o,none⟩) 1 cap line):=⟨_,rfl⟩;have N:Below w.heap.size w w1:=by rw [z];exact (Below.refl _ w).alloc (Nat.le_refl _) _
 have p1:w1.heap[w.heap.size]?=some (yW 9 s n (some ⟨b,o,none⟩) 1 cap line):=by rw [z];exact World.alloc_heap_new w _
 have al:w1.heap.size=w.heap.size+1:=by rw [z];simp
 have aa:=h.below N;have W:Hid (zp r q w w1 q w1):=zp.start h N;generalize kidO x0 8 (prE d x0)=X0 at *;generalize tokO 1 0 s=X1 at *;have HR:Hid (R=zd X0 (zd (some [46]) X1)):=hR;have X:Hid (zy w0 r q t w1):=aa;have H:Hid (w1.heap[w.heap.size]?=some (yW 9 s n (some ⟨b,o,none⟩) 1 cap line)):=p1;have L:Hid (ZW w0 b (o) a01 a02 a03 a04 a05 a06 a07):=hk0;have ak:=z.symm;obtain ⟨Q,c1,c2,O,T⟩:=zF p1;clear hR aa p1 z N h hX hl hT hx0 hk0
 go_enter Tryz.func82,Tryz.ntmps82
 have I:=ae.out q (t) w1 X.out;obtain ⟨k0,k1,k2,k3,k4⟩:=L.out.now X.out.env;go_wp2_with fail
 refine I.mono ?_;clear I Q c1 c2 O T k0 k1 k2 k3 k4;rintro e w2 ⟨q2,A,ab⟩;cases X0 with
 | none=>subst ab;obtain rfl:R=none:=(by rw [HR.out];rfl);exact ⟨rfl,q2,(W.out.step A).unto,rfl⟩
 | some u0 =>
 obtain ⟨rfl,ai⟩:=ab;have U:Hid (zp r q w w1 q2 w2):=W.out.step A;have ad:Hid (zy w0 r q2 (t++u0) w2):=ai;clear A ai;obtain ⟨Q,c1,c2,O,T⟩:=zF ((U.out.block _ (Nat.le_refl _) (by omega)).trans H.out)
 have I:=zw w0 r q2 (t++u0) [46] w2 ad.out (by simp)
 go_wp2_with fail
 refine I.mono ?_;clear I Q c1 c2 O T;rintro e w3 ⟨q3,J,rfl,aj⟩;have G:Hid (zp r q w w1 q3 w3):=U.out.step J;have Y:Hid (zy w0 r q3 (t++u0++[46]) w3):=aj;clear J aj;obtain ⟨Q,c1,c2,O,T⟩:=zF ((G.out.block _ (Nat.le_refl _) (by omega)).trans H.out)
 have I:=Z.out q3 (t++u0++[46]) w3 Y.out;go_wp2_with fail
 refine I.mono ?_;clear I Q c1 c2 O T;rintro e w4 ⟨q4,y,ah⟩;cases X1 with
 | none=>subst ah;obtain rfl:R=none:=(by rw [HR.out];rfl);exact ⟨rfl,q4,(G.out.step y).unto,rfl⟩
 | some u1 =>
 obtain ⟨rfl,ag⟩:=ah;have V:Hid (zp r q w w1 q4 w4):=G.out.step y;have af:Hid (zy w0 r q4 (t++u0++[46]++u1) w4):=ag;clear y ag;obtain ⟨Q,c1,c2,O,T⟩:=zF ((V.out.block _ (Nat.le_refl _) (by omega)).trans H.out)
 obtain rfl:R=some (u0++([46]++(u1))):=by rw [HR.out];rfl
 have HP:Hid (zn w0 r q t w (some (u0++([46]++(u1)))) (.returned (.tuple #[])) w4):=⟨q4,V.out.unto,rfl,by have:=af.out;simpa only [List.append_assoc] using this⟩
 clear W X U ad G Y V af Q c1 c2 O T HR H ae Z L;go_wp2
 exact bodyPost_ret (v:=.tuple #[]) (by simp [results,Tryz.results82,go_sem]) rfl HP.out
end Go.Proofs.YtcphojjpapgblaaGreatDoor
