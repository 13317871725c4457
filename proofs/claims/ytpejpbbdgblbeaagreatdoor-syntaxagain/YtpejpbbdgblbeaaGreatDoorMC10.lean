import Derived.Test.YtpejpbbdgblbeaaGreatDoorMC9
namespace Go.Proofs.YtpejpbbdgblbeaaGreatDoor
open Go.RowKit Go.Shelf
set_option maxHeartbeats 16000000
set_option maxRecDepth 100000
theorem Qa (l:List (Option (List UInt8))) {i:Nat} (h:rowO l i=none):∀k,rowO l (i+k)=none
 | 0=>h
 | k+1=>by
  show rowO l (i+k+1)=none
  rw [rowO,Qa l h k];rfl
theorem Qb (l:List (Option (List UInt8))) {i m:Nat} (hi:i<m) (h:(l[i]?).getD none=none):rowO l m=none:=by
 have o:rowO l (i+1)=none:=by
  rw [rowO,h]
  cases rowO l i <;> rfl
 have:=Qa l o (m-(i+1))
 rwa [show i+1+(m-(i+1))=m by omega] at this
theorem zhr {sz:Nat} {us:List (List Value)} (hfive:∀c∈us,c.length=sz) {i j:Nat} {c:List Value} (hc:us[i]?=some c) (hj:j<sz):us.flatten[i*sz+j]?=c[j]?:=by
 induction us generalizing i with
 | nil=>simp at hc
 | cons d us ih =>
  have hd:d.length=sz:=hfive d (by simp)
  cases i with
  | zero =>
   simp only [List.getElem?_cons_zero,Option.some.injEq] at hc;subst hc;rw [List.flatten_cons,List.getElem?_append_left (by omega)]
   simp
  | succ i =>
   have e:(i+1)*sz=i*sz+sz:=Nat.succ_mul i sz;rw [List.flatten_cons,List.getElem?_append_right (by omega)]
   rw [show (i+1)*sz+j-d.length=i*sz+j by omega]
   exact ih (fun c hc=>hfive c (by simp [hc])) (by simpa using hc)
theorem Zy.kid {B:Nat} {w:World} {k:Int} {s:List UInt8} {n:Int} {kids:List Ez} {line:Int} {v:Value} (h:Zy B w (.mk k s n kids line) v):∃base cap,v=yz k s n base kids.length cap line∧kids.length≤cap∧cap≤maxLen∧s.length≤100000000∧-9223372036854775808≤n∧n≤9223372036854775807 ∧
  ∀i x,kids[i]?=some x→∃b o z G I H D A a7,base=some ⟨b,o,none⟩∧b<B∧b<w.heap.size∧Zy B w x (yz z G I H D A a7) ∧
   w.cell? ⟨b,o+i*5,none⟩=some (.int .i64 z)∧w.cell? ⟨b,o+i*5+1,none⟩=some (.string (zb G))∧w.cell? ⟨b,o+i*5+2,none⟩=some (.int .i64 I)∧w.cell? ⟨b,o+i*5+3,none⟩=some (.slice H D A)∧w.cell? ⟨b,o+i*5+4,none⟩=some (.int .i64 a7):=by
 cases h with
 | mk k s n kids line base cap b o us hs hn0 hn1 hbase hlen hc hm hcell hfive hk =>
  refine ⟨base,cap,rfl,hc,hm,hs,hn0,hn1,fun i x hx=>?_⟩
  have W:i<kids.length:=(List.getElem?_eq_some_iff.1 hx).1;have O:kids≠[]:=by rintro rfl;simp at W
  obtain ⟨Q,N,U⟩:=hbase O;obtain ⟨c,L⟩:∃c,us[i]?=some c:=⟨us[i]'(by omega),List.getElem?_eq_getElem (by omega)⟩
  have J:=hk i x c hx L
  obtain ⟨z,G,I,H,D,A,a7,T⟩:∃z G I H D A a7,Value.agg c.toArray=yz z G I H D A a7:=by
   generalize Value.agg c.toArray=V at J;cases J with
   | mk=>exact ⟨_,_,_,_,_,_,_,rfl⟩
  have R:c=[.int .i64 z,.string (zb G),.int .i64 I,.slice H D A,.int .i64 a7]:=by
   have:=congrArg (fun v=>match v with | .agg a=>a.toList | _=>[]) T
   simpa using this
  subst R
  have y:∀j u,j<5→([.int .i64 z,.string (zb G),.int .i64 I,.slice H D A,.int .i64 a7]:List Value)[j]?=some u→w.cell? ⟨b,o+i*5+j,none⟩=some u:=fun j u hj hu=>by
   rw [Nat.add_assoc];exact hcell _ _ ((zhr hfive L hj).trans hu)
  exact ⟨b,o,z,G,I,H,D,A,a7,Q,N,U,J,y 0 _ (by omega) rfl,y 1 _ (by omega) rfl,y 2 _ (by omega) rfl,y 3 _ (by omega) rfl,y 4 _ (by omega) rfl⟩
theorem Vm (w0:World) (f:Ez→Option (List UInt8)) (l:List Ez) (base:Option Addr) (cap bw bd r:Nat) (q:Option Nat) (t:List UInt8) (w:World) (h:zy w0 r q t w) (hc:l.length≤cap) (hm:cap≤maxLen)
  (hl:∀i x,l[i]?=some x→∃b o a1 a2 U a4 Q Z Y,base=some ⟨b,o,none⟩∧b<w0.heap.size∧b<w0.heap.size∧Zy w0.heap.size w0 x (yz a1 a2 U a4 Q Z Y) ∧
   w0.cell? ⟨b,o+i*5,none⟩=some (.int .i64 a1)∧w0.cell? ⟨b,o+i*5+1,none⟩=some (.string (zb a2))∧w0.cell? ⟨b,o+i*5+2,none⟩=some (.int .i64 U)∧w0.cell? ⟨b,o+i*5+3,none⟩=some (.slice a4 Q Z)∧w0.cell? ⟨b,o+i*5+4,none⟩=some (.int .i64 Y))
  (hone:∀x v A t1 w1,x∈l→Zy w0.heap.size w0 x v→zy w0 r A t1 w1→zT r q w A w1→Calls Tryz.prog 79 #[v,.pointer (some ⟨bw,0,none⟩),.pointer (some ⟨bd,0,none⟩)] w1 (zo w0 r A t1 w1 (f x))) :
  Calls Tryz.prog 83 #[.pointer (some ⟨r,0,none⟩),.slice base l.length cap,.func (.func 79) #[] #[.pointer (some ⟨bw,0,none⟩),.pointer (some ⟨bd,0,none⟩)]] w (zo w0 r q t w (rowO (l.map f) l.length)):=by
 obtain ⟨n,hn⟩:∃n,n=l.length:=⟨_,rfl⟩;rw [←hn] at hc ⊢;have au:n≤9223372036854775807:=by unfold maxLen at hm;omega
 obtain ⟨R,hR⟩:∃R,R=rowO (l.map f) n:=⟨_,rfl⟩;rw [←hR];have HR:Hid (R=rowO (l.map f) n):=hR;have HN:Hid (n=l.length):=hn;have HC:=hl
 have ak:Hid (∀i x,l[i]?=some x→∃b o a1 a2 U a4 Q Z Y,base=some ⟨b,o,none⟩∧b<w0.heap.size∧b<w0.heap.size∧Zy w0.heap.size w0 x (yz a1 a2 U a4 Q Z Y) ∧
   w0.cell? ⟨b,o+i*5,none⟩=some (.int .i64 a1)∧w0.cell? ⟨b,o+i*5+1,none⟩=some (.string (zb a2))∧w0.cell? ⟨b,o+i*5+2,none⟩=some (.int .i64 U)∧w0.cell? ⟨b,o+i*5+3,none⟩=some (.slice a4 Q Z)∧w0.cell? ⟨b,o+i*5+4,none⟩=some (.int .i64 Y)):=hl
 have V:Hid (∀x v A t1 w1,x∈l→Zy w0.heap.size w0 x v→zy w0 r A t1 w1→zT r q w A w1→Calls Tryz.prog 79 #[v,.pointer (some ⟨bw,0,none⟩),.pointer (some ⟨bd,0,none⟩)] w1 (zo w0 r A t1 w1 (f x))):=hone;have HW:Hid (zy w0 r q t w):=h;have ax:=h.lt.1;have aA:=h.lt.2;clear HC hl hone h hn hR
 go_enter Tryz.func83,Tryz.ntmps83
 go_wp2_with fail
 go_loopw [10] (fun i wr=>∃(k:Nat) (A:Option Nat) (s:List UInt8),k≤n∧i=.int .i64 k∧zT r q w A wr∧rowO (l.map f) k=some s∧zy w0 r A (t++s) wr) (fun i _=>n-(intOf i).toNat)
 case atStart=>exact ⟨0,q,[],Nat.zero_le _,rfl,zT.refl _ _ _,rfl,by rw [List.append_nil];exact HW.out⟩
 case round =>
  obtain ⟨k,A,s,hk,rfl,ah,G,z⟩:=hrel
  by_cases hlt:k<n
  ·obtain ⟨x,hx⟩:∃x,l[k]?=some x:=⟨l[k]'(by rw [←HN.out];exact hlt),List.getElem?_eq_getElem (by rw [←HN.out];exact hlt)⟩
   obtain ⟨b,o,a1,a2,U,a4,Q,Z,Y,rfl,ad,-,al,m0,m1,m2,m3,m4⟩:=ak.out k x hx;have n0:=(z.env.cell (p:=⟨b,o+k*5,none⟩) ad).trans m0;have n1:=(z.env.cell (p:=⟨b,o+k*5+1,none⟩) ad).trans m1;have n2:=(z.env.cell (p:=⟨b,o+k*5+2,none⟩) ad).trans m2;have n3:=(z.env.cell (p:=⟨b,o+k*5+3,none⟩) ad).trans m3;have n4:=(z.env.cell (p:=⟨b,o+k*5+4,none⟩) ad).trans m4;clear m0 m1 m2 m3 m4;have ao:(k:Int)<(n:Int):=by omega
   obtain ⟨I,H⟩:∃I,I=wr.alloc (YD a1 a2 U a4 Q Z Y):=⟨_,rfl⟩;have p2:I.heap[wr.heap.size]?=some (.cells #[.int .i64 a1,.string (zb a2),.int .i64 U,.slice a4 Q Z,.int .i64 Y] 45 (0,0)):=by rw [H];exact World.alloc_heap_new wr _
   have av:I.heap.size=wr.heap.size+1:=by rw [H];simp
   have J:Hid (zT r q w A I):=show zT _ _ _ _ _ by rw [H];exact ah.alloc _
   have ai:Hid (zy w0 r A (t++s) I):=show zy _ _ _ _ _ by rw [H];exact z.alloc _
   have aw:=z.lt.1;have am:=z.lt.2
   have D:∀W:World,W.heap[wr.heap.size]?=I.heap[wr.heap.size]?→W.cell? ⟨wr.heap.size,0,none⟩=some (.int .i64 a1)∧W.cell? ⟨wr.heap.size,1,none⟩=some (.string (zb a2))∧W.cell? ⟨wr.heap.size,2,none⟩=some (.int .i64 U)∧W.cell? ⟨wr.heap.size,3,none⟩=some (.slice a4 Q Z)∧W.cell? ⟨wr.heap.size,4,none⟩=some (.int .i64 Y):=fun W hW=>by
    rw [p2] at hW;refine ⟨?_,?_,?_,?_,?_⟩ <;> (simp only [World.cell?,hW];rfl)
   have N:((l.map f)[k]?).getD none=f x:=by rw [List.getElem?_map,hx];rfl
   have ag:Hid (f x=none→R=none):=fun h9=>by rw [HR.out];exact Qb _ hlt (by rw [N,h9])
   have af:Hid (∀u,f x=some u→rowO (l.map f) (k+1)=some (s++((if k=0 then [] else [44,32])++u))):=fun u h9=>by
    rw [rowO,G,N,h9];rfl
   have cx:=fun q2 t2 W h1 h2=>V.out x _ q2 t2 W (List.mem_of_getElem? hx) al h1 h2
   have aj:Hid (∀A t1 w1,zy w0 r A t1 w1→zT r q w A w1→Calls Tryz.prog 79 #[yz a1 a2 U a4 Q Z Y,.pointer (some ⟨bw,0,none⟩),.pointer (some ⟨bd,0,none⟩)] w1 (zo w0 r A t1 w1 (f x))):=cx;have ab:Hid (∀W:World,W.heap[wr.heap.size]?=I.heap[wr.heap.size]?→W.cell? ⟨wr.heap.size,0,none⟩=some (.int .i64 a1)∧W.cell? ⟨wr.heap.size,1,none⟩=some (.string (zb a2))∧W.cell? ⟨wr.heap.size,2,none⟩=some (.int .i64 U)∧W.cell? ⟨wr.heap.size,3,none⟩=some (.slice a4 Q Z)∧W.cell? ⟨wr.heap.size,4,none⟩=some (.int .i64 Y)):=D;have ar:=H.symm;clear cx D N al ah z G ak V HW H p2;generalize f x=X at *;rcases Nat.eq_zero_or_pos k with ap | ap
   ·subst ap
    rw [Nat.zero_mul,Nat.add_zero] at n0 n1 n2 n3 n4;obtain ⟨c0,c1,c2,c3,c4⟩:=ab.out I rfl;have c:=aj.out A (t++s) I ai.out J.out;go_wp2_with fail
    refine c.mono ?_;clear c;rintro e w3 ⟨q3,y,hp⟩;cases X with
    | none=>subst hp;obtain rfl:=ag.out rfl;exact ⟨rfl,q3,J.out.trans y,rfl⟩
    | some u =>
     obtain ⟨rfl,L⟩:=hp;have aa:Hid (∃(k':Nat) (q':Option Nat) (s':List UInt8),k'=1∧zT r q w q' w3∧rowO (l.map f) k'=some s'∧zy w0 r q' (t++s') w3):=⟨1,q3,_,rfl,J.out.trans y,af.out u rfl,by rw [if_pos trivial,List.nil_append,←List.append_assoc];exact L⟩
     clear y L af ag J ai aj ab c0 c1 c2 c3 c4;go_wp2
     obtain ⟨k',q',s',rfl,h1,h2,h3⟩:=aa.out;exact ⟨⟨1,q',s',by omega,by go_num,h1,h2,h3⟩,by simp [intOf];omega⟩
   ·have az:(0:Int)<(k:Int):=by omega
    obtain ⟨c0,c1,c2,c3,c4⟩:=ab.out I rfl;have cp:=zx w0 r A (t++s) [44,32] I ai.out (by simp)
    go_wp2_with fail
    refine cp.mono ?_;clear cp c0 c1 c2 c3 c4;rintro e w3 ⟨q3,y,rfl,L⟩;have ay:=y.size;have T:w3.heap[wr.heap.size]?=I.heap[wr.heap.size]?:=y.block _ (by omega) (by omega) (fun e=>by have:=am _ e;omega)
    obtain ⟨c0,c1,c2,c3,c4⟩:=ab.out w3 T;have ae:Hid (zT r q w q3 w3):=J.out.trans y;have c:=aj.out q3 (t++s++[44,32]) w3 L ae.out;clear y L T;go_wp2_with fail
    refine c.mono ?_;clear c;rintro e w4 ⟨q4,O,hp⟩;cases X with
    | none=>subst hp;obtain rfl:=ag.out rfl;exact ⟨rfl,q4,ae.out.trans O,rfl⟩
    | some u =>
     obtain ⟨rfl,an⟩:=hp;have aa:Hid (∃(k':Nat) (q':Option Nat) (s':List UInt8),k'=k+1∧zT r q w q' w4∧rowO (l.map f) k'=some s'∧zy w0 r q' (t++s') w4):=⟨k+1,q4,_,rfl,ae.out.trans O,af.out u rfl,by rw [if_neg (by omega),←List.append_assoc,←List.append_assoc];exact an⟩
     clear O an af ag J ae ai aj ab c0 c1 c2 c3 c4;go_wp2
     obtain ⟨k',q',s',rfl,h1,h2,h3⟩:=aa.out;exact ⟨⟨k+1,q',s',by omega,by go_num,h1,h2,h3⟩,by simp [intOf];omega⟩
  ·have aq:k=n:=by omega
   have ao:¬(k:Int)<(n:Int):=by omega
   have HP:Hid (zo w0 r q t w R (.returned (.tuple #[])) wr):=show zo _ _ _ _ _ _ _ _ by
    rw [HR.out,←aq,G];exact ⟨A,ah,rfl,z⟩
   clear ah z G ak V HW;go_wp2
   exact bodyPost_ret (v:=.tuple #[]) (by simp [results,Tryz.results83,go_sem]) rfl HP.out
def lvK (k:Int) (s:List UInt8):Nat:=if k=7 then levelOf s else if k=6 then 7 else 8
theorem zhP (k:Int) (s:List UInt8):lvK k s≤8:=by
 unfold lvK
 have:=YK s
 split
 ·omega
 ·split <;> omega
theorem qt (k:Int) (s:List UInt8) (n:Int) (base:Option Addr) (m cap:Nat) (line:Int) (w:World) (ht:ZC w) :
  Calls Tryz.prog 147 #[yz k s n base m cap line] w fun e w'=>e=.returned (.int .i64 (lvK k s:Int))∧Below w.heap.size w w':=by
 obtain ⟨w1,h⟩:∃w1,w1=w.alloc (YD k s n base m cap line):=⟨_,rfl⟩;have y:Below w.heap.size w w1:=by rw [h];exact (Below.refl _ w).alloc (Nat.le_refl _) _
 have G:w1.heap[w.heap.size]?=some (.cells #[.int .i64 k,.string (zb s),.int .i64 n,.slice base m cap,.int .i64 line] 45 (0,0)):=by rw [h];exact World.alloc_heap_new w _
 have N:w1.cell? ⟨w.heap.size,0,none⟩=some (.int .i64 k):=by simp only [World.cell?,G];rfl
 have c1:w1.cell? ⟨w.heap.size,1,none⟩=some (.string (zb s)):=by simp only [World.cell?,G];rfl
 have H:=Xz s w1 (fun j v hj=>by rw [h];exact zl (ht j v hj) _)
 have D:Hid (Below w.heap.size w w1):=y;have I:=h.symm;clear y G h ht
 by_cases h7:k=7
 ·have A:Hid (lvK k s=levelOf s):=show _=_ by unfold lvK;rw [if_pos h7]
  subst h7
  go_enter Tryz.func147,Tryz.ntmps147
  go_wp2_with fail
  refine H.mono ?_;rintro e J ⟨rfl,o⟩;have z:Hid (Below w.heap.size w J):=zp D.out o;clear o H;go_wp2
  exact bodyPost_ret (v:=.int .i64 (levelOf s:Int)) (by simp [results,Tryz.results147,go_sem]) rfl ⟨by rw [A.out],z.out⟩
 ·have O:(k==7)=false:=by rw [beq_eq_false_iff_ne];exact h7
  clear H
  by_cases h6:k=6
  ·subst h6
   go_enter Tryz.func147,Tryz.ntmps147
   go_wp2
   exact bodyPost_ret (v:=.int .i64 7) (by simp [results,Tryz.results147,go_sem]) rfl ⟨rfl,D.out⟩
  ·have L:(k==6)=false:=by rw [beq_eq_false_iff_ne];exact h6
   have A:Hid (lvK k s=8):=show _=_ by unfold lvK;rw [if_neg h7,if_neg h6]
   go_enter Tryz.func147,Tryz.ntmps147
   go_wp2
   exact bodyPost_ret (v:=.int .i64 8) (by simp [results,Tryz.results147,go_sem]) rfl ⟨by rw [A.out];rfl,D.out⟩
def yN (w0:World) (d:Nat):Prop:=∀(x:Ez) (v:Value) (r:Nat) (q:Option Nat) (t:List UInt8) (w:World),Zy w0.heap.size w0 x v→zy w0 r q t w→Calls Tryz.prog 42 #[.pointer (some ⟨r,0,none⟩),v,.int .i64 (d:Int)] w (zo w0 r q t w (prE d x))
theorem VF (w0:World) (d:Nat) (hX:yN w0 d) (hl:ZC w0) (x:Ez) (v:Value) (least r:Nat) (q:Option Nat) (t:List UInt8) (w:World) (hx:Zy w0.heap.size w0 x v) (h:zy w0 r q t w) :
  Calls Tryz.prog 124 #[.pointer (some ⟨r,0,none⟩),v,.int .i64 (least:Int),.int .i64 (d:Int)] w (zo w0 r q t w (kidO x least (prE d x))):=by
 have aj:=hx;obtain ⟨k,s,n,kids,line,y,G,b,o,us,hs,ay,av,ab,ak,hc,hm,aa,ad,hk⟩:=hx;obtain ⟨w1,N⟩:∃w1,w1=w.alloc (YD k s n y kids.length G line):=⟨_,rfl⟩;have ae:Below w.heap.size w w1:=by rw [N];exact (Below.refl _ w).alloc (Nat.le_refl _) _
 have p1:w1.heap[w.heap.size]?=some (.cells #[.int .i64 k,.string (zb s),.int .i64 n,.slice y kids.length G,.int .i64 line] 45 (0,0)):=by rw [N];exact World.alloc_heap_new w _
 have h1:=h.below ae;have cl:=qt k s n y kids.length G line w1 (fun j v hj=>by rw [h1.env.cell (World.block_lt_of_cell? w0 _ (hl j v hj))];exact hl j v hj)
 have aq:w1.heap.size=w.heap.size+1:=by rw [N];simp
 have az:=zhP k s;have HR:Hid (kidO (.mk k s n kids line) least (prE d (.mk k s n kids line))=if least≤lvK k s then prE d (.mk k s n kids line) else zc (some [40]) (zc (prE d (.mk k s n kids line)) (some [41]))):=rfl
 have T:Hid (∀(q:Option Nat) (t:List UInt8) (w:World),zy w0 r q t w→Calls Tryz.prog 42 #[.pointer (some ⟨r,0,none⟩),yz k s n y kids.length G line,.int .i64 (d:Int)] w (zo w0 r q t w (prE d (.mk k s n kids line)))):=fun q t w h=>hX _ _ r q t w aj h
 have hr:=h.lt.1;have I:=h.lt.2;generalize kidO (.mk k s n kids line) least (prE d (.mk k s n kids line))=R at *;generalize prE d (.mk k s n kids line)=X at *;generalize kids.length=m at *
 have z:∀W:World,W.heap[w.heap.size]?=w1.heap[w.heap.size]?→W.cell? ⟨w.heap.size,0,none⟩=some (.int .i64 k)∧W.cell? ⟨w.heap.size,1,none⟩=some (.string (zb s))∧W.cell? ⟨w.heap.size,2,none⟩=some (.int .i64 n)∧W.cell? ⟨w.heap.size,3,none⟩=some (.slice y m G)∧W.cell? ⟨w.heap.size,4,none⟩=some (.int .i64 line):=fun W hW=>by
  rw [p1] at hW;refine ⟨?_,?_,?_,?_,?_⟩ <;> (simp only [World.cell?,hW];rfl)
 have U:Hid (∀W:World,W.heap[w.heap.size]?=w1.heap[w.heap.size]?→W.cell? ⟨w.heap.size,0,none⟩=some (.int .i64 k)∧W.cell? ⟨w.heap.size,1,none⟩=some (.string (zb s))∧W.cell? ⟨w.heap.size,2,none⟩=some (.int .i64 n)∧W.cell? ⟨w.heap.size,3,none⟩=some (.slice y m G)∧W.cell? ⟨w.heap.size,4,none⟩=some (.int .i64 line)):=z;obtain ⟨c0,c1,c2,c3,c4⟩:=z w1 rfl;have al:Hid (zy w0 r q t w1):=h1;have ao:Hid (zT r q w q w1):=zT.below ae;have ar:=N.symm;clear N p1 ae h1 h aj z hX hl ab ak hc aa ad hk;generalize hLV:lvK k s=L at *;clear hLV
 go_enter Tryz.func124,Tryz.ntmps124
 go_wp2_with fail
 refine cl.mono ?_;clear cl;rintro e w2 ⟨rfl,D⟩;obtain ⟨c0,c1,c2,c3,c4⟩:=U.out w2 (D.block _ (by omega))
 have aw:=D.size;have af:Hid (w2.heap[w.heap.size]?=w1.heap[w.heap.size]?):=D.block _ (by omega)
 have V:Hid (zy w0 r q t w2):=al.out.below D;have Q:Hid (zT r q w q w2):=ao.out.trans (zT.below D);clear D al ao;have hR:=HR.out;clear HR
 by_cases hle:least≤L
 ·rw [if_pos hle] at hR
  subst hR;have cx:=T.out q t w2 V.out;have h9:(least:Int)≤(L:Int):=by omega
  go_wp2_with fail
  refine cx.mono ?_;clear cx;rintro e Y ⟨q3,am,hp⟩;have H:=Q.out.trans am;cases R with
  | none=>subst hp;exact ⟨rfl,q3,H,rfl⟩
  | some u =>
   obtain ⟨rfl,hw⟩:=hp;have HP:Hid (zo w0 r q t w (some u) (.returned (.tuple #[])) Y):=⟨q3,H,rfl,hw⟩;clear am hw H Q V T U af;go_wp2
   exact bodyPost_ret (v:=.tuple #[]) (by simp [results,Tryz.results124,go_sem]) rfl HP.out
 ·rw [if_neg hle] at hR
  subst hR;have cp:=zx w0 r q t [40] w2 V.out (by simp)
  have h9:¬ (least:Int)≤(L:Int):=by omega
  go_wp2_with fail
  refine cp.mono ?_;clear cp;rintro e Y ⟨q3,A,rfl,ag⟩;have O:Hid (zT r q w q3 Y):=Q.out.trans A;have Z:Y.heap[w.heap.size]?=w2.heap[w.heap.size]?:=A.block _ (by omega) (by omega) (fun e=>by have:=I _ e;omega)
  have ai:Hid (Y.heap[w.heap.size]?=w1.heap[w.heap.size]?):=Z.trans af.out;obtain ⟨c0,c1,c2,c3,c4⟩:=U.out Y ai.out;have cx:=T.out q3 (t++[40]) Y ag;have au:=A.size
  have ax:∀k,q3=some k→k≠w.heap.size:=fun k hk=>by
   rcases O.out.row with e | e
   ·have:=I k (e ▸ hk);omega
   ·rcases A.row with e2 | e2
    ·have:=I k (e2 ▸ hk);omega
    ·have:=e2 k hk;omega
  clear A ag Z;go_wp2_with fail
  refine cx.mono ?_;clear cx;rintro e w4 ⟨q4,J,hp⟩;cases X with
  | none=>subst hp;exact ⟨rfl,zo.seq O.out (zo.stop J rfl)⟩
  | some u =>
   obtain ⟨rfl,an⟩:=hp;have ah:Hid (zT r q3 Y q4 w4):=J;have cp:=zx w0 r q4 (t++[40]++u) [41] w4 an (by simp)
   clear J an;go_wp2_with fail
   refine cp.mono ?_;clear cp;rintro e w5 ap;have HP:Hid (zo w0 r q t w (zc (some [40]) (zc (some u) (some [41]))) e w5):=zo.seq O.out (zo.seq ah.out ap);obtain ⟨-,-,rfl,-⟩:=ap;clear O ah V Q T U af ai;go_wp2
   exact bodyPost_ret (v:=.tuple #[]) (by simp [results,Tryz.results124,go_sem]) rfl HP.out
structure zr (r:Nat) (q0:Option Nat) (w w1:World) (q:Option Nat) (W:World):Prop where
 unto:zT r q0 w q W
 hr:r<w.heap.size
 block:∀k,w.heap.size≤k→k<w1.heap.size→W.heap[k]?=w1.heap[k]?
 hq:∀k,q=some k→k<w.heap.size∨w1.heap.size≤k
 size:w1.heap.size≤W.heap.size
theorem zr.step {r:Nat} {q0 q q':Option Nat} {w w1 W W':World} (h:zr r q0 w w1 q W) (ht:zT r q W q' W'):zr r q0 w w1 q' W':=by
 refine ⟨h.unto.trans ht,h.hr,fun k h1 h2=>?_,fun k hk=>?_,Nat.le_trans h.size ht.size⟩
 ·refine (ht.block k (Nat.lt_of_lt_of_le h2 h.size) (by have:=h.hr;omega) fun e=>?_).trans (h.block k h1 h2)
  rcases h.hq k e with o | o <;> omega
 ·rcases ht.row with e | e
  ·exact h.hq k (e ▸ hk)
  ·exact .inr (Nat.le_trans h.size (e k hk))
theorem zr.start {w0:World} {r:Nat} {q:Option Nat} {t:List UInt8} {w w1:World} (h:zy w0 r q t w) (hb:Below w.heap.size w w1):zr r q w w1 q w1 :=
 ⟨zT.below hb,h.lt.1,fun _ _ _=>rfl,fun k hk=>.inl (h.lt.2 k hk),Nat.le_refl _⟩
theorem zI {w:World} {N:Nat} {k:Int} {s:List UInt8} {n:Int} {base:Option Addr} {m cap:Nat} {line:Int} (p:w.heap[N]?=some (YD k s n base m cap line)) :
  w.cell? ⟨N,0,none⟩=some (.int .i64 k)∧w.cell? ⟨N,1,none⟩=some (.string (zb s))∧w.cell? ⟨N,2,none⟩=some (.int .i64 n)∧w.cell? ⟨N,3,none⟩=some (.slice base m cap)∧w.cell? ⟨N,4,none⟩=some (.int .i64 line):=by
 refine ⟨?_,?_,?_,?_,?_⟩ <;> (simp only [World.cell?,p];rfl)
structure ZZ (w0:World) (b p:Nat) (a1:Int) (a2:List UInt8) (a3:Int) (a4:Option Addr) (a5 a6:Nat) (a7:Int):Prop where
 lt:b<w0.heap.size
 c0:w0.cell? ⟨b,p,none⟩=some (.int .i64 a1)
 c1:w0.cell? ⟨b,p+1,none⟩=some (.string (zb a2))
 c2:w0.cell? ⟨b,p+2,none⟩=some (.int .i64 a3)
 c3:w0.cell? ⟨b,p+3,none⟩=some (.slice a4 a5 a6)
 c4:w0.cell? ⟨b,p+4,none⟩=some (.int .i64 a7)
theorem ZZ.now {w0 w:World} {b p:Nat} {a1:Int} {a2:List UInt8} {a3:Int} {a4:Option Addr} {a5 a6:Nat} {a7:Int} (h:ZZ w0 b p a1 a2 a3 a4 a5 a6 a7) (hb:Below w0.heap.size w0 w) :
  w.cell? ⟨b,p,none⟩=some (.int .i64 a1)∧w.cell? ⟨b,p+1,none⟩=some (.string (zb a2))∧w.cell? ⟨b,p+2,none⟩=some (.int .i64 a3)∧w.cell? ⟨b,p+3,none⟩=some (.slice a4 a5 a6)∧w.cell? ⟨b,p+4,none⟩=some (.int .i64 a7) :=
 ⟨(hb.cell h.lt).trans h.c0,(hb.cell h.lt).trans h.c1,(hb.cell h.lt).trans h.c2,(hb.cell h.lt).trans h.c3,(hb.cell h.lt).trans h.c4⟩
theorem zhQ (w0:World) (d:Nat) (D:Int) (hD:D-1=(d:Int)) (_hD1:1≤D) (hD2:D≤24) (hX:yN w0 d) (hl:ZC w0) (s:List UInt8) (n:Int) (b o cap r:Nat) (line:Int) (q:Option Nat) (t:List UInt8) (w:World) (hs:s.length≤100000000) (h:zy w0 r q t w) (x0:Ez) (a01:Int) (a02:List UInt8) (a03:Int) (a04:Option Addr) (a05 a06:Nat) (a07:Int) (hx0:Zy w0.heap.size w0 x0 (yz a01 a02 a03 a04 a05 a06 a07)) (hk0:ZZ w0 b (o) a01 a02 a03 a04 a05 a06 a07) :
  Calls Tryz.prog 84 #[.pointer (some ⟨r,0,none⟩),yz 6 s n (some ⟨b,o,none⟩) 1 cap line,.int .i64 D] w (zo w0 r q t w (zc (some s) (kidO x0 7 (prE d x0)))):=by
 obtain ⟨R,hR⟩:∃R,R=zc (some s) (kidO x0 7 (prE d x0)):=⟨_,rfl⟩;rw [←hR];have ab:Hid (∀(q:Option Nat) (t:List UInt8) (w:World),zy w0 r q t w→Calls Tryz.prog 124 #[.pointer (some ⟨r,0,none⟩),yz a01 a02 a03 a04 a05 a06 a07,.int .i64 ((7:Nat):Int),.int .i64 (d:Int)] w (zo w0 r q t w (kidO x0 (7) (prE d x0)))):=fun q t w h=>VF w0 d hX hl x0 _ (7) r q t w hx0 h
 obtain ⟨w1,z⟩:∃w1,w1=w.alloc (YD 6 s n (some ⟨b,o,none⟩) 1 cap line):=⟨_,rfl⟩;have J:Below w.heap.size w w1:=by rw [z];exact (Below.refl _ w).alloc (Nat.le_refl _) _
 have p1:w1.heap[w.heap.size]?=some (YD 6 s n (some ⟨b,o,none⟩) 1 cap line):=by rw [z];exact World.alloc_heap_new w _
 have ad:w1.heap.size=w.heap.size+1:=by rw [z];simp
 have O:=h.below J;have T:Hid (zr r q w w1 q w1):=zr.start h J;generalize kidO x0 7 (prE d x0)=X0 at *;have HR:Hid (R=zc (some s) X0):=hR;have aa:Hid (zy w0 r q t w1):=O;have N:Hid (w1.heap[w.heap.size]?=some (YD 6 s n (some ⟨b,o,none⟩) 1 cap line)):=p1;have G:Hid (ZZ w0 b (o) a01 a02 a03 a04 a05 a06 a07):=hk0;have ae:=z.symm;obtain ⟨c0,c1,c2,c3,V⟩:=zI p1;clear hR O p1 z J h hX hl hx0 hk0
 go_enter Tryz.func84,Tryz.ntmps84
 have W:=zx w0 r q (t) s w1 aa.out (by omega)
 go_wp2_with fail
 refine W.mono ?_;clear W c0 c1 c2 c3 V;rintro e w2 ⟨q2,H,rfl,Q⟩;have A:Hid (zr r q w w1 q2 w2):=T.out.step H;have I:Hid (zy w0 r q2 (t++s) w2):=Q;clear H Q;obtain ⟨c0,c1,c2,c3,V⟩:=zI ((A.out.block _ (Nat.le_refl _) (by omega)).trans N.out)
 have W:=ab.out q2 (t++s) w2 I.out;obtain ⟨k0,k1,k2,k3,k4⟩:=G.out.now I.out.env;go_wp2_with fail
 refine W.mono ?_;clear W c0 c1 c2 c3 V k0 k1 k2 k3 k4;rintro e w3 ⟨q3,y,U⟩;cases X0 with
 | none=>subst U;obtain rfl:R=none:=(by rw [HR.out];rfl);exact ⟨rfl,q3,(A.out.step y).unto,rfl⟩
 | some u0 =>
 obtain ⟨rfl,Y⟩:=U;have L:Hid (zr r q w w1 q3 w3):=A.out.step y;have Z:Hid (zy w0 r q3 (t++s++u0) w3):=Y;clear y Y;obtain ⟨c0,c1,c2,c3,V⟩:=zI ((L.out.block _ (Nat.le_refl _) (by omega)).trans N.out)
 obtain rfl:R=some (s++(u0)):=by rw [HR.out];rfl
 have HP:Hid (zo w0 r q t w (some (s++(u0))) (.returned (.tuple #[])) w3):=⟨q3,L.out.unto,rfl,by have:=Z.out;simpa only [List.append_assoc] using this⟩
 clear T aa A I L Z c0 c1 c2 c3 V HR N ab G;go_wp2
 exact bodyPost_ret (v:=.tuple #[]) (by simp [results,Tryz.results84,go_sem]) rfl HP.out
theorem zhR (w0:World) (d:Nat) (D:Int) (hD:D-1=(d:Int)) (_hD1:1≤D) (hD2:D≤24) (hX:yN w0 d) (hl:ZC w0) (s:List UInt8) (n:Int) (b o cap r:Nat) (line:Int) (q:Option Nat) (t:List UInt8) (w:World) (hs:s.length≤100000000) (h:zy w0 r q t w) (x0:Ez) (a01:Int) (a02:List UInt8) (a03:Int) (a04:Option Addr) (a05 a06:Nat) (a07:Int) (hx0:Zy w0.heap.size w0 x0 (yz a01 a02 a03 a04 a05 a06 a07)) (hk0:ZZ w0 b (o) a01 a02 a03 a04 a05 a06 a07) (x1:Ez) (a11:Int) (a12:List UInt8) (a13:Int) (a14:Option Addr) (a15 a16:Nat) (a17:Int) (hx1:Zy w0.heap.size w0 x1 (yz a11 a12 a13 a14 a15 a16 a17)) (hk1:ZZ w0 b (o+5) a11 a12 a13 a14 a15 a16 a17) :
  Calls Tryz.prog 84 #[.pointer (some ⟨r,0,none⟩),yz 7 s n (some ⟨b,o,none⟩) 2 cap line,.int .i64 D] w (zo w0 r q t w (zc (kidO x0 (levelOf s) (prE d x0)) (zc (some [32]) (zc (some s) (zc (some [32]) (kidO x1 (levelOf s+1) (prE d x1))))))):=by
 obtain ⟨R,hR⟩:∃R,R=zc (kidO x0 (levelOf s) (prE d x0)) (zc (some [32]) (zc (some s) (zc (some [32]) (kidO x1 (levelOf s+1) (prE d x1))))):=⟨_,rfl⟩;rw [←hR];have ak:Hid (∀(q:Option Nat) (t:List UInt8) (w:World),zy w0 r q t w→Calls Tryz.prog 124 #[.pointer (some ⟨r,0,none⟩),yz a01 a02 a03 a04 a05 a06 a07,.int .i64 (((levelOf s):Nat):Int),.int .i64 (d:Int)] w (zo w0 r q t w (kidO x0 ((levelOf s)) (prE d x0)))):=fun q t w h=>VF w0 d hX hl x0 _ ((levelOf s)) r q t w hx0 h
 have ae:Hid (∀(q:Option Nat) (t:List UInt8) (w:World),zy w0 r q t w→Calls Tryz.prog 124 #[.pointer (some ⟨r,0,none⟩),yz a11 a12 a13 a14 a15 a16 a17,.int .i64 (((levelOf s+1):Nat):Int),.int .i64 (d:Int)] w (zo w0 r q t w (kidO x1 ((levelOf s+1)) (prE d x1)))):=fun q t w h=>VF w0 d hX hl x1 _ ((levelOf s+1)) r q t w hx1 h
 obtain ⟨w1,J⟩:∃w1,w1=w.alloc (YD 7 s n (some ⟨b,o,none⟩) 2 cap line):=⟨_,rfl⟩;have ah:Below w.heap.size w w1:=by rw [J];exact (Below.refl _ w).alloc (Nat.le_refl _) _
 have p1:w1.heap[w.heap.size]?=some (YD 7 s n (some ⟨b,o,none⟩) 2 cap line):=by rw [J];exact World.alloc_heap_new w _
 have aB:w1.heap.size=w.heap.size+1:=by rw [J];simp
 have Z:=h.below ah;have aq:Hid (zr r q w w1 q w1):=zr.start h ah;have cl:=Xz s w1 (fun j v hj=>by rw [Z.env.cell (World.block_lt_of_cell? w0 _ (hl j v hj))];exact hl j v hj)
 have ay:=YK s;obtain ⟨L,hL⟩:∃L,L=levelOf s:=⟨_,rfl⟩;rw [←hL] at cl ay hR ak ae;clear hL;generalize kidO x0 L (prE d x0)=X0 at *;generalize kidO x1 (L+1) (prE d x1)=X1 at *;have HR:Hid (R=zc X0 (zc (some [32]) (zc (some s) (zc (some [32]) X1)))):=hR;have aA:Hid (zy w0 r q t w1):=Z;have y:Hid (w1.heap[w.heap.size]?=some (YD 7 s n (some ⟨b,o,none⟩) 2 cap line)):=p1;have U:Hid (ZZ w0 b (o) a01 a02 a03 a04 a05 a06 a07):=hk0;have V:Hid (ZZ w0 b (o+5) a11 a12 a13 a14 a15 a16 a17):=hk1;have aC:=J.symm;obtain ⟨H,c1,c2,G,A⟩:=zI p1;clear hR Z p1 J ah h hX hl hx0 hk0 hx1 hk1
 go_enter Tryz.func84,Tryz.ntmps84
 go_wp2_with fail
 refine cl.mono ?_;clear cl H c1 c2 G A;rintro e w2 ⟨rfl,ab⟩;have O:Hid (zr r q w w1 q w2):=aq.out.step (zT.below ab);have af:Hid (zy w0 r q (t) w2):=aA.out.below ab;clear ab;obtain ⟨H,c1,c2,G,A⟩:=zI ((O.out.block _ (Nat.le_refl _) (by omega)).trans y.out)
 have z:=ak.out q (t) w2 af.out;obtain ⟨k0,k1,k2,k3,k4⟩:=U.out.now af.out.env;go_wp2_with fail
 refine z.mono ?_;clear z H c1 c2 G A k0 k1 k2 k3 k4;rintro e w3 ⟨q3,I,ar⟩;cases X0 with
 | none=>subst ar;obtain rfl:R=none:=(by rw [HR.out];rfl);exact ⟨rfl,q3,(O.out.step I).unto,rfl⟩
 | some u0 =>
 obtain ⟨rfl,aw⟩:=ar;have ai:Hid (zr r q w w1 q3 w3):=O.out.step I;have ax:Hid (zy w0 r q3 (t++u0) w3):=aw;clear I aw;obtain ⟨H,c1,c2,G,A⟩:=zI ((ai.out.block _ (Nat.le_refl _) (by omega)).trans y.out)
 have z:=zx w0 r q3 (t++u0) [32] w3 ax.out (by simp)
 go_wp2_with fail
 refine z.mono ?_;clear z H c1 c2 G A;rintro e w4 ⟨q4,W,rfl,ao⟩;have ad:Hid (zr r q w w1 q4 w4):=ai.out.step W;have av:Hid (zy w0 r q4 (t++u0++[32]) w4):=ao;clear W ao;obtain ⟨H,c1,c2,G,A⟩:=zI ((ad.out.block _ (Nat.le_refl _) (by omega)).trans y.out)
 have z:=zx w0 r q4 (t++u0++[32]) s w4 av.out (by omega)
 go_wp2_with fail
 refine z.mono ?_;clear z H c1 c2 G A;rintro e w5 ⟨q5,T,rfl,az⟩;have ag:Hid (zr r q w w1 q5 w5):=ad.out.step T;have al:Hid (zy w0 r q5 (t++u0++[32]++s) w5):=az;clear T az;obtain ⟨H,c1,c2,G,A⟩:=zI ((ag.out.block _ (Nat.le_refl _) (by omega)).trans y.out)
 have z:=zx w0 r q5 (t++u0++[32]++s) [32] w5 al.out (by simp)
 go_wp2_with fail
 refine z.mono ?_;clear z H c1 c2 G A;rintro e w6 ⟨q6,Y,rfl,am⟩;have Q:Hid (zr r q w w1 q6 w6):=ag.out.step Y;have aa:Hid (zy w0 r q6 (t++u0++[32]++s++[32]) w6):=am;clear Y am;obtain ⟨H,c1,c2,G,A⟩:=zI ((Q.out.block _ (Nat.le_refl _) (by omega)).trans y.out)
 have z:=ae.out q6 (t++u0++[32]++s++[32]) w6 aa.out;obtain ⟨k0,k1,k2,k3,k4⟩:=V.out.now aa.out.env;go_wp2_with fail
 refine z.mono ?_;clear z H c1 c2 G A k0 k1 k2 k3 k4;rintro e w7 ⟨q7,N,au⟩;cases X1 with
 | none=>subst au;obtain rfl:R=none:=(by rw [HR.out];rfl);exact ⟨rfl,q7,(Q.out.step N).unto,rfl⟩
 | some u1 =>
 obtain ⟨rfl,an⟩:=au;have aj:Hid (zr r q w w1 q7 w7):=Q.out.step N;have ap:Hid (zy w0 r q7 (t++u0++[32]++s++[32]++u1) w7):=an;clear N an;obtain ⟨H,c1,c2,G,A⟩:=zI ((aj.out.block _ (Nat.le_refl _) (by omega)).trans y.out)
 obtain rfl:R=some (u0++([32]++(s++([32]++(u1))))):=by rw [HR.out];rfl
 have HP:Hid (zo w0 r q t w (some (u0++([32]++(s++([32]++(u1)))))) (.returned (.tuple #[])) w7):=⟨q7,aj.out.unto,rfl,by have:=ap.out;simpa only [List.append_assoc] using this⟩
 clear aq aA O af ai ax ad av ag al Q aa aj ap H c1 c2 G A HR y ak ae U V;go_wp2
 exact bodyPost_ret (v:=.tuple #[]) (by simp [results,Tryz.results84,go_sem]) rfl HP.out
theorem zhS (w0:World) (d:Nat) (D:Int) (hD:D-1=(d:Int)) (_hD1:1≤D) (hD2:D≤24) (hX:yN w0 d) (hl:ZC w0) (s:List UInt8) (n:Int) (b o cap r:Nat) (line:Int) (q:Option Nat) (t:List UInt8) (w:World) (h:zy w0 r q t w) (x0:Ez) (a01:Int) (a02:List UInt8) (a03:Int) (a04:Option Addr) (a05 a06:Nat) (a07:Int) (hx0:Zy w0.heap.size w0 x0 (yz a01 a02 a03 a04 a05 a06 a07)) (hk0:ZZ w0 b (o) a01 a02 a03 a04 a05 a06 a07) (x1:Ez) (a11:Int) (a12:List UInt8) (a13:Int) (a14:Option Addr) (a15 a16:Nat) (a17:Int) (hx1:Zy w0.heap.size w0 x1 (yz a11 a12 a13 a14 a15 a16 a17)) (hk1:ZZ w0 b (o+5) a11 a12 a13 a14 a15 a16 a17) :
  Calls Tryz.prog 84 #[.pointer (some ⟨r,0,none⟩),yz 8 s n (some ⟨b,o,none⟩) 2 cap line,.int .i64 D] w (zo w0 r q t w (zc (kidO x0 8 (prE d x0)) (zc (some [91]) (zc (prE d x1) (some [93]))))):=by
 obtain ⟨R,hR⟩:∃R,R=zc (kidO x0 8 (prE d x0)) (zc (some [91]) (zc (prE d x1) (some [93]))):=⟨_,rfl⟩;rw [←hR];have ap:Hid (∀(q:Option Nat) (t:List UInt8) (w:World),zy w0 r q t w→Calls Tryz.prog 124 #[.pointer (some ⟨r,0,none⟩),yz a01 a02 a03 a04 a05 a06 a07,.int .i64 ((8:Nat):Int),.int .i64 (d:Int)] w (zo w0 r q t w (kidO x0 (8) (prE d x0)))):=fun q t w h=>VF w0 d hX hl x0 _ (8) r q t w hx0 h
 have al:Hid (∀(q:Option Nat) (t:List UInt8) (w:World),zy w0 r q t w→Calls Tryz.prog 42 #[.pointer (some ⟨r,0,none⟩),yz a11 a12 a13 a14 a15 a16 a17,.int .i64 (d:Int)] w (zo w0 r q t w (prE d x1))):=fun q t w h=>hX x1 _ r q t w hx1 h
 obtain ⟨w1,H⟩:∃w1,w1=w.alloc (YD 8 s n (some ⟨b,o,none⟩) 2 cap line):=⟨_,rfl⟩;have ab:Below w.heap.size w w1:=by rw [H];exact (Below.refl _ w).alloc (Nat.le_refl _) _
 have p1:w1.heap[w.heap.size]?=some (YD 8 s n (some ⟨b,o,none⟩) 2 cap line):=by rw [H];exact World.alloc_heap_new w _
 have aq:w1.heap.size=w.heap.size+1:=by rw [H];simp
 have af:=h.below ab;have V:Hid (zr r q w w1 q w1):=zr.start h ab;generalize kidO x0 8 (prE d x0)=X0 at *;generalize prE d x1=X1 at *;have HR:Hid (R=zc X0 (zc (some [91]) (zc X1 (some [93])))):=hR;have ad:Hid (zy w0 r q t w1):=af;have G:Hid (w1.heap[w.heap.size]?=some (YD 8 s n (some ⟨b,o,none⟩) 2 cap line)):=p1;have T:Hid (ZZ w0 b (o) a01 a02 a03 a04 a05 a06 a07):=hk0;have U:Hid (ZZ w0 b (o+5) a11 a12 a13 a14 a15 a16 a17):=hk1;have ar:=H.symm;obtain ⟨N,c1,c2,L,I⟩:=zI p1;clear hR af p1 H ab h hX hl hx0 hk0 hx1 hk1
 go_enter Tryz.func84,Tryz.ntmps84
 have y:=ap.out q (t) w1 ad.out;obtain ⟨k0,k1,k2,k3,k4⟩:=T.out.now ad.out.env;go_wp2_with fail
 refine y.mono ?_;clear y N c1 c2 L I k0 k1 k2 k3 k4;rintro e w2 ⟨q2,A,ag⟩;cases X0 with
 | none=>subst ag;obtain rfl:R=none:=(by rw [HR.out];rfl);exact ⟨rfl,q2,(V.out.step A).unto,rfl⟩
 | some u0 =>
 obtain ⟨rfl,ah⟩:=ag;have W:Hid (zr r q w w1 q2 w2):=V.out.step A;have am:Hid (zy w0 r q2 (t++u0) w2):=ah;clear A ah;obtain ⟨N,c1,c2,L,I⟩:=zI ((W.out.block _ (Nat.le_refl _) (by omega)).trans G.out)
 have y:=zx w0 r q2 (t++u0) [91] w2 am.out (by simp)
 go_wp2_with fail
 refine y.mono ?_;clear y N c1 c2 L I;rintro e w3 ⟨q3,O,rfl,an⟩;have J:Hid (zr r q w w1 q3 w3):=W.out.step O;have aa:Hid (zy w0 r q3 (t++u0++[91]) w3):=an;clear O an;obtain ⟨N,c1,c2,L,I⟩:=zI ((J.out.block _ (Nat.le_refl _) (by omega)).trans G.out)
 have y:=al.out q3 (t++u0++[91]) w3 aa.out;obtain ⟨k0,k1,k2,k3,k4⟩:=U.out.now aa.out.env;go_wp2_with fail
 refine y.mono ?_;clear y N c1 c2 L I k0 k1 k2 k3 k4;rintro e w4 ⟨q4,z,aj⟩;cases X1 with
 | none=>subst aj;obtain rfl:R=none:=(by rw [HR.out];rfl);exact ⟨rfl,q4,(J.out.step z).unto,rfl⟩
 | some u1 =>
 obtain ⟨rfl,ai⟩:=aj;have Y:Hid (zr r q w w1 q4 w4):=J.out.step z;have ak:Hid (zy w0 r q4 (t++u0++[91]++u1) w4):=ai;clear z ai;obtain ⟨N,c1,c2,L,I⟩:=zI ((Y.out.block _ (Nat.le_refl _) (by omega)).trans G.out)
 have y:=zx w0 r q4 (t++u0++[91]++u1) [93] w4 ak.out (by simp)
 go_wp2_with fail
 refine y.mono ?_;clear y N c1 c2 L I;rintro e w5 ⟨q5,Q,rfl,ao⟩;have Z:Hid (zr r q w w1 q5 w5):=Y.out.step Q;have ae:Hid (zy w0 r q5 (t++u0++[91]++u1++[93]) w5):=ao;clear Q ao;obtain ⟨N,c1,c2,L,I⟩:=zI ((Z.out.block _ (Nat.le_refl _) (by omega)).trans G.out)
 obtain rfl:R=some (u0++([91]++(u1++([93])))):=by rw [HR.out];rfl
 have HP:Hid (zo w0 r q t w (some (u0++([91]++(u1++([93]))))) (.returned (.tuple #[])) w5):=⟨q5,Z.out.unto,rfl,by have:=ae.out;simpa only [List.append_assoc] using this⟩
 clear V ad W am J aa Y ak Z ae N c1 c2 L I HR G ap al T U;go_wp2
 exact bodyPost_ret (v:=.tuple #[]) (by simp [results,Tryz.results84,go_sem]) rfl HP.out
theorem zhT (w0:World) (d:Nat) (D:Int) (hD:D-1=(d:Int)) (_hD1:1≤D) (hD2:D≤24) (hX:yN w0 d) (hT:ZE w0) (hl:ZC w0) (s:List UInt8) (n:Int) (b o cap r:Nat) (line:Int) (q:Option Nat) (t:List UInt8) (w:World) (hs:s.length≤100000000) (h:zy w0 r q t w) (x0:Ez) (a01:Int) (a02:List UInt8) (a03:Int) (a04:Option Addr) (a05 a06:Nat) (a07:Int) (hx0:Zy w0.heap.size w0 x0 (yz a01 a02 a03 a04 a05 a06 a07)) (hk0:ZZ w0 b (o) a01 a02 a03 a04 a05 a06 a07) :
  Calls Tryz.prog 84 #[.pointer (some ⟨r,0,none⟩),yz 9 s n (some ⟨b,o,none⟩) 1 cap line,.int .i64 D] w (zo w0 r q t w (zc (kidO x0 8 (prE d x0)) (zc (some [46]) (tokO 1 0 s)))):=by
 obtain ⟨R,hR⟩:∃R,R=zc (kidO x0 8 (prE d x0)) (zc (some [46]) (tokO 1 0 s)):=⟨_,rfl⟩;rw [←hR];have ak:Hid (∀(q:Option Nat) (t:List UInt8) (w:World),zy w0 r q t w→Calls Tryz.prog 124 #[.pointer (some ⟨r,0,none⟩),yz a01 a02 a03 a04 a05 a06 a07,.int .i64 ((8:Nat):Int),.int .i64 (d:Int)] w (zo w0 r q t w (kidO x0 (8) (prE d x0)))):=fun q t w h=>VF w0 d hX hl x0 _ (8) r q t w hx0 h
 have ag:Hid (∀(q:Option Nat) (t:List UInt8) (w:World),zy w0 r q t w→Calls Tryz.prog 82 #[.pointer (some ⟨r,0,none⟩),.string (zb s)] w (zo w0 r q t w (tokO 1 0 s))):=fun q t w h=>yx w0 r q t s w hT h hs
 obtain ⟨w1,A⟩:∃w1,w1=w.alloc (YD 9 s n (some ⟨b,o,none⟩) 1 cap line):=⟨_,rfl⟩;have U:Below w.heap.size w w1:=by rw [A];exact (Below.refl _ w).alloc (Nat.le_refl _) _
 have p1:w1.heap[w.heap.size]?=some (YD 9 s n (some ⟨b,o,none⟩) 1 cap line):=by rw [A];exact World.alloc_heap_new w _
 have al:w1.heap.size=w.heap.size+1:=by rw [A];simp
 have Z:=h.below U;have N:Hid (zr r q w w1 q w1):=zr.start h U;generalize kidO x0 8 (prE d x0)=X0 at *;generalize tokO 1 0 s=X1 at *;have HR:Hid (R=zc X0 (zc (some [46]) X1)):=hR;have W:Hid (zy w0 r q t w1):=Z;have H:Hid (w1.heap[w.heap.size]?=some (YD 9 s n (some ⟨b,o,none⟩) 1 cap line)):=p1;have J:Hid (ZZ w0 b (o) a01 a02 a03 a04 a05 a06 a07):=hk0;have am:=A.symm;obtain ⟨Y,c1,c2,V,T⟩:=zI p1;clear hR Z p1 A U h hX hl hT hx0 hk0
 go_enter Tryz.func84,Tryz.ntmps84
 have L:=ak.out q (t) w1 W.out;obtain ⟨k0,k1,k2,k3,k4⟩:=J.out.now W.out.env;go_wp2_with fail
 refine L.mono ?_;clear L Y c1 c2 V T k0 k1 k2 k3 k4;rintro e w2 ⟨q2,z,aa⟩;cases X0 with
 | none=>subst aa;obtain rfl:R=none:=(by rw [HR.out];rfl);exact ⟨rfl,q2,(N.out.step z).unto,rfl⟩
 | some u0 =>
 obtain ⟨rfl,ab⟩:=aa;have O:Hid (zr r q w w1 q2 w2):=N.out.step z;have ah:Hid (zy w0 r q2 (t++u0) w2):=ab;clear z ab;obtain ⟨Y,c1,c2,V,T⟩:=zI ((O.out.block _ (Nat.le_refl _) (by omega)).trans H.out)
 have L:=zx w0 r q2 (t++u0) [46] w2 ah.out (by simp)
 go_wp2_with fail
 refine L.mono ?_;clear L Y c1 c2 V T;rintro e w3 ⟨q3,I,rfl,ai⟩;have G:Hid (zr r q w w1 q3 w3):=O.out.step I;have aj:Hid (zy w0 r q3 (t++u0++[46]) w3):=ai;clear I ai;obtain ⟨Y,c1,c2,V,T⟩:=zI ((G.out.block _ (Nat.le_refl _) (by omega)).trans H.out)
 have L:=ag.out q3 (t++u0++[46]) w3 aj.out;go_wp2_with fail
 refine L.mono ?_;clear L Y c1 c2 V T;rintro e w4 ⟨q4,y,ae⟩;cases X1 with
 | none=>subst ae;obtain rfl:R=none:=(by rw [HR.out];rfl);exact ⟨rfl,q4,(G.out.step y).unto,rfl⟩
 | some u1 =>
 obtain ⟨rfl,ad⟩:=ae;have Q:Hid (zr r q w w1 q4 w4):=G.out.step y;have af:Hid (zy w0 r q4 (t++u0++[46]++u1) w4):=ad;clear y ad;obtain ⟨Y,c1,c2,V,T⟩:=zI ((Q.out.block _ (Nat.le_refl _) (by omega)).trans H.out)
 obtain rfl:R=some (u0++([46]++(u1))):=by rw [HR.out];rfl
 have HP:Hid (zo w0 r q t w (some (u0++([46]++(u1)))) (.returned (.tuple #[])) w4):=⟨q4,Q.out.unto,rfl,by have:=af.out;simpa only [List.append_assoc] using this⟩
 clear N W O ah G aj Q af Y c1 c2 V T HR H ak ag J;go_wp2
 exact bodyPost_ret (v:=.tuple #[]) (by simp [results,Tryz.results84,go_sem]) rfl HP.out
end Go.Proofs.YtpejpbbdgblbeaaGreatDoor
