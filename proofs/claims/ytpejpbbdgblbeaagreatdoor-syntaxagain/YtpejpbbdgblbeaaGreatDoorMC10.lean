import Derived.Test.YtpejpbbdgblbeaaGreatDoorMC9
namespace Go.Proofs.YtpejpbbdgblbeaaGreatDoor
open Go.RowKit Go.Shelf
set_option maxHeartbeats 16000000
set_option maxRecDepth 100000
theorem Qa (l:List (Option (List UInt8))) {i:Nat} (h:rowO l i=none):∀k,rowO l (i+k)=none
 | 0=>h
 | k+1=>by
  show rowO l (i+k+1)=none
  rw [rowO,Qa l h k];rfl
theorem Qb (l:List (Option (List UInt8))) {i m:Nat} (hi:i<m) (h:(l[i]?).getD none=none):rowO l m=none:=by
 have o:rowO l (i+1)=none:=by
  rw [rowO,h]
  cases rowO l i <;> rfl
 have:=Qa l o (m-(i+1))
 rwa [show i+1+(m-(i+1))=m by omega] at this
theorem zhr {sz:Nat} {us:List (List Value)} (hfive:∀c∈us,c.length=sz) {i j:Nat} {c:List Value} (hc:us[i]?=some c) (hj:j<sz):us.flatten[i*sz+j]?=c[j]?:=by
 induction us generalizing i with
 | nil=>simp at hc
 | cons d us ih =>
  have hd:d.length=sz:=hfive d (by simp)
  cases i with
  | zero =>
   simp only [List.getElem?_cons_zero,Option.some.injEq] at hc;subst hc;rw [List.flatten_cons,List.getElem?_append_left (by omega)]
   simp
  | succ i =>
   have e:(i+1)*sz=i*sz+sz:=Nat.succ_mul i sz;rw [List.flatten_cons,List.getElem?_append_right (by omega)]
   rw [show (i+1)*sz+j-d.length=i*sz+j by omega]
   exact ih (fun c hc=>hfive c (by simp [hc])) (by simpa using hc)
theorem Zy.kid {B:Nat} {w:World} {k:Int} {s:List UInt8} {n:Int} {kids:List Ez} {line:Int} {v:Value} (h:Zy B w (.mk k s n kids line) v):∃base cap,v=yz k s n base kids.length cap line∧kids.length≤cap∧cap≤maxLen∧s.length≤100000000∧-9223372036854775808≤n∧n≤9223372036854775807 ∧
  ∀i x,kids[i]?=some x→∃b o H z D A I G a7,base=some ⟨b,o,none⟩∧b<B∧b<w.heap.size∧Zy B w x (yz H z D A I G a7) ∧
   w.cell? ⟨b,o+i*5,none⟩=some (.int .i64 H)∧w.cell? ⟨b,o+i*5+1,none⟩=some (.string (zb z))∧w.cell? ⟨b,o+i*5+2,none⟩=some (.int .i64 D)∧w.cell? ⟨b,o+i*5+3,none⟩=some (.slice A I G)∧w.cell? ⟨b,o+i*5+4,none⟩=some (.int .i64 a7):=by
 cases h with
 | mk k s n kids line base cap b o us hs hn0 hn1 hbase hlen hc hm hcell hfive hk =>
  refine ⟨base,cap,rfl,hc,hm,hs,hn0,hn1,fun i x hx=>?_⟩
  have W:i<kids.length:=(List.getElem?_eq_some_iff.1 hx).1;have N:kids≠[]:=by rintro rfl;simp at W
  obtain ⟨R,T,O⟩:=hbase N;obtain ⟨c,L⟩:∃c,us[i]?=some c:=⟨us[i]'(by omega),List.getElem?_eq_getElem (by omega)⟩
  have J:=hk i x c hx L
  obtain ⟨H,z,D,A,I,G,a7,Q⟩:∃H z D A I G a7,Value.agg c.toArray=yz H z D A I G a7:=by
   generalize Value.agg c.toArray=V at J;cases J with
   | mk=>exact ⟨_,_,_,_,_,_,_,rfl⟩
  have U:c=[.int .i64 H,.string (zb z),.int .i64 D,.slice A I G,.int .i64 a7]:=by
   have:=congrArg (fun v=>match v with | .agg a=>a.toList | _=>[]) Q
   simpa using this
  subst U
  have y:∀j u,j<5→([.int .i64 H,.string (zb z),.int .i64 D,.slice A I G,.int .i64 a7]:List Value)[j]?=some u→w.cell? ⟨b,o+i*5+j,none⟩=some u:=fun j u hj hu=>by
   rw [Nat.add_assoc];exact hcell _ _ ((zhr hfive L hj).trans hu)
  exact ⟨b,o,H,z,D,A,I,G,a7,R,T,O,J,y 0 _ (by omega) rfl,y 1 _ (by omega) rfl,y 2 _ (by omega) rfl,y 3 _ (by omega) rfl,y 4 _ (by omega) rfl⟩
theorem Vm (w0:World) (f:Ez→Option (List UInt8)) (l:List Ez) (base:Option Addr) (cap bw bd r:Nat) (q:Option Nat) (t:List UInt8) (w:World) (h:zy w0 r q t w) (hc:l.length≤cap) (hm:cap≤maxLen)
  (hl:∀i x,l[i]?=some x→∃b o Q O a3 N a5 V a7,base=some ⟨b,o,none⟩∧b<w0.heap.size∧b<w0.heap.size∧Zy w0.heap.size w0 x (yz Q O a3 N a5 V a7) ∧
   w0.cell? ⟨b,o+i*5,none⟩=some (.int .i64 Q)∧w0.cell? ⟨b,o+i*5+1,none⟩=some (.string (zb O))∧w0.cell? ⟨b,o+i*5+2,none⟩=some (.int .i64 a3)∧w0.cell? ⟨b,o+i*5+3,none⟩=some (.slice N a5 V)∧w0.cell? ⟨b,o+i*5+4,none⟩=some (.int .i64 a7))
  (hone:∀x v A t1 w1,x∈l→Zy w0.heap.size w0 x v→zy w0 r A t1 w1→zT r q w A w1→Calls Tryz.prog 79 #[v,.pointer (some ⟨bw,0,none⟩),.pointer (some ⟨bd,0,none⟩)] w1 (zo w0 r A t1 w1 (f x))) :
  Calls Tryz.prog 83 #[.pointer (some ⟨r,0,none⟩),.slice base l.length cap,.func (.func 79) #[] #[.pointer (some ⟨bw,0,none⟩),.pointer (some ⟨bd,0,none⟩)]] w (zo w0 r q t w (rowO (l.map f) l.length)):=by
 obtain ⟨n,hn⟩:∃n,n=l.length:=⟨_,rfl⟩;rw [←hn] at hc ⊢;have ar:n≤9223372036854775807:=by unfold maxLen at hm;omega
 obtain ⟨R,hR⟩:∃R,R=rowO (l.map f) n:=⟨_,rfl⟩;rw [←hR];have HR:Hid (R=rowO (l.map f) n):=hR;have HN:Hid (n=l.length):=hn;have HC:=hl
 have ak:Hid (∀i x,l[i]?=some x→∃b o Q O a3 N a5 V a7,base=some ⟨b,o,none⟩∧b<w0.heap.size∧b<w0.heap.size∧Zy w0.heap.size w0 x (yz Q O a3 N a5 V a7) ∧
   w0.cell? ⟨b,o+i*5,none⟩=some (.int .i64 Q)∧w0.cell? ⟨b,o+i*5+1,none⟩=some (.string (zb O))∧w0.cell? ⟨b,o+i*5+2,none⟩=some (.int .i64 a3)∧w0.cell? ⟨b,o+i*5+3,none⟩=some (.slice N a5 V)∧w0.cell? ⟨b,o+i*5+4,none⟩=some (.int .i64 a7)):=hl
 have L:Hid (∀x v A t1 w1,x∈l→Zy w0.heap.size w0 x v→zy w0 r A t1 w1→zT r q w A w1→Calls Tryz.prog 79 #[v,.pointer (some ⟨bw,0,none⟩),.pointer (some ⟨bd,0,none⟩)] w1 (zo w0 r A t1 w1 (f x))):=hone;have HW:Hid (zy w0 r q t w):=h;have ay:=h.lt.1;have ax:=h.lt.2;clear HC hl hone h hn hR
 go_enter Tryz.func83,Tryz.ntmps83
 go_wp2_with fail
 go_loopw [10] (fun i wr=>∃(k:Nat) (A:Option Nat) (s:List UInt8),k≤n∧i=.int .i64 k∧zT r q w A wr∧rowO (l.map f) k=some s∧zy w0 r A (t++s) wr) (fun i _=>n-(intOf i).toNat)
 case atStart=>exact ⟨0,q,[],Nat.zero_le _,rfl,zT.refl _ _ _,rfl,by rw [List.append_nil];exact HW.out⟩
 case round =>
  obtain ⟨k,A,s,hk,rfl,ah,D,z⟩:=hrel
  by_cases hlt:k<n
  ·obtain ⟨x,hx⟩:∃x,l[k]?=some x:=⟨l[k]'(by rw [←HN.out];exact hlt),List.getElem?_eq_getElem (by rw [←HN.out];exact hlt)⟩
   obtain ⟨b,o,Q,O,a3,N,a5,V,a7,rfl,Z,-,al,m0,m1,m2,m3,m4⟩:=ak.out k x hx;have n0:=(z.env.cell (p:=⟨b,o+k*5,none⟩) Z).trans m0;have n1:=(z.env.cell (p:=⟨b,o+k*5+1,none⟩) Z).trans m1;have n2:=(z.env.cell (p:=⟨b,o+k*5+2,none⟩) Z).trans m2;have n3:=(z.env.cell (p:=⟨b,o+k*5+3,none⟩) Z).trans m3;have n4:=(z.env.cell (p:=⟨b,o+k*5+4,none⟩) Z).trans m4;clear m0 m1 m2 m3 m4;have an:(k:Int)<(n:Int):=by omega
   obtain ⟨H,I⟩:∃H,H=wr.alloc (YD Q O a3 N a5 V a7):=⟨_,rfl⟩;have p2:H.heap[wr.heap.size]?=some (.cells #[.int .i64 Q,.string (zb O),.int .i64 a3,.slice N a5 V,.int .i64 a7] 45 (0,0)):=by rw [I];exact World.alloc_heap_new wr _
   have aw:H.heap.size=wr.heap.size+1:=by rw [I];simp
   have J:Hid (zT r q w A H):=show zT _ _ _ _ _ by rw [I];exact ah.alloc _
   have ai:Hid (zy w0 r A (t++s) H):=show zy _ _ _ _ _ by rw [I];exact z.alloc _
   have av:=z.lt.1;have ao:=z.lt.2
   have G:∀W:World,W.heap[wr.heap.size]?=H.heap[wr.heap.size]?→W.cell? ⟨wr.heap.size,0,none⟩=some (.int .i64 Q)∧W.cell? ⟨wr.heap.size,1,none⟩=some (.string (zb O))∧W.cell? ⟨wr.heap.size,2,none⟩=some (.int .i64 a3)∧W.cell? ⟨wr.heap.size,3,none⟩=some (.slice N a5 V)∧W.cell? ⟨wr.heap.size,4,none⟩=some (.int .i64 a7):=fun W hW=>by
    rw [p2] at hW;refine ⟨?_,?_,?_,?_,?_⟩ <;> (simp only [World.cell?,hW];rfl)
   have T:((l.map f)[k]?).getD none=f x:=by rw [List.getElem?_map,hx];rfl
   have aj:Hid (f x=none→R=none):=fun h9=>by rw [HR.out];exact Qb _ hlt (by rw [T,h9])
   have ae:Hid (∀u,f x=some u→rowO (l.map f) (k+1)=some (s++((if k=0 then [] else [44,32])++u))):=fun u h9=>by
    rw [rowO,D,T,h9];rfl
   have cx:=fun q2 t2 W h1 h2=>L.out x _ q2 t2 W (List.mem_of_getElem? hx) al h1 h2
   have ag:Hid (∀A t1 w1,zy w0 r A t1 w1→zT r q w A w1→Calls Tryz.prog 79 #[yz Q O a3 N a5 V a7,.pointer (some ⟨bw,0,none⟩),.pointer (some ⟨bd,0,none⟩)] w1 (zo w0 r A t1 w1 (f x))):=cx;have U:Hid (∀W:World,W.heap[wr.heap.size]?=H.heap[wr.heap.size]?→W.cell? ⟨wr.heap.size,0,none⟩=some (.int .i64 Q)∧W.cell? ⟨wr.heap.size,1,none⟩=some (.string (zb O))∧W.cell? ⟨wr.heap.size,2,none⟩=some (.int .i64 a3)∧W.cell? ⟨wr.heap.size,3,none⟩=some (.slice N a5 V)∧W.cell? ⟨wr.heap.size,4,none⟩=some (.int .i64 a7)):=G;have au:=I.symm;clear cx G T al ah z D ak L HW I p2;generalize f x=X at *;rcases Nat.eq_zero_or_pos k with ap | ap
   ·subst ap
    rw [Nat.zero_mul,Nat.add_zero] at n0 n1 n2 n3 n4;obtain ⟨c0,c1,c2,c3,c4⟩:=U.out H rfl;have c:=ag.out A (t++s) H ai.out J.out;go_wp2_with fail
    refine c.mono ?_;clear c;rintro e w3 ⟨q3,y,hp⟩;cases X with
    | none=>subst hp;obtain rfl:=aj.out rfl;exact ⟨rfl,q3,J.out.trans y,rfl⟩
    | some u =>
     obtain ⟨rfl,Y⟩:=hp;have ad:Hid (∃(k':Nat) (q':Option Nat) (s':List UInt8),k'=1∧zT r q w q' w3∧rowO (l.map f) k'=some s'∧zy w0 r q' (t++s') w3):=⟨1,q3,_,rfl,J.out.trans y,ae.out u rfl,by rw [if_pos trivial,List.nil_append,←List.append_assoc];exact Y⟩
     clear y Y ae aj J ai ag U c0 c1 c2 c3 c4;go_wp2
     obtain ⟨k',q',s',rfl,h1,h2,h3⟩:=ad.out;exact ⟨⟨1,q',s',by omega,by go_num,h1,h2,h3⟩,by simp [intOf];omega⟩
   ·have az:(0:Int)<(k:Int):=by omega
    obtain ⟨c0,c1,c2,c3,c4⟩:=U.out H rfl;have cp:=zx w0 r A (t++s) [44,32] H ai.out (by simp)
    go_wp2_with fail
    refine cp.mono ?_;clear cp c0 c1 c2 c3 c4;rintro e w3 ⟨q3,y,rfl,Y⟩;have aA:=y.size;have ab:w3.heap[wr.heap.size]?=H.heap[wr.heap.size]?:=y.block _ (by omega) (by omega) (fun e=>by have:=ao _ e;omega)
    obtain ⟨c0,c1,c2,c3,c4⟩:=U.out w3 ab;have af:Hid (zT r q w q3 w3):=J.out.trans y;have c:=ag.out q3 (t++s++[44,32]) w3 Y af.out;clear y Y ab;go_wp2_with fail
    refine c.mono ?_;clear c;rintro e w4 ⟨q4,aa,hp⟩;cases X with
    | none=>subst hp;obtain rfl:=aj.out rfl;exact ⟨rfl,q4,af.out.trans aa,rfl⟩
    | some u =>
     obtain ⟨rfl,am⟩:=hp;have ad:Hid (∃(k':Nat) (q':Option Nat) (s':List UInt8),k'=k+1∧zT r q w q' w4∧rowO (l.map f) k'=some s'∧zy w0 r q' (t++s') w4):=⟨k+1,q4,_,rfl,af.out.trans aa,ae.out u rfl,by rw [if_neg (by omega),←List.append_assoc,←List.append_assoc];exact am⟩
     clear aa am ae aj J af ai ag U c0 c1 c2 c3 c4;go_wp2
     obtain ⟨k',q',s',rfl,h1,h2,h3⟩:=ad.out;exact ⟨⟨k+1,q',s',by omega,by go_num,h1,h2,h3⟩,by simp [intOf];omega⟩
  ·have aq:k=n:=by omega
   have an:¬(k:Int)<(n:Int):=by omega
   have HP:Hid (zo w0 r q t w R (.returned (.tuple #[])) wr):=show zo _ _ _ _ _ _ _ _ by
    rw [HR.out,←aq,D];exact ⟨A,ah,rfl,z⟩
   clear ah z D ak L HW;go_wp2
   exact bodyPost_ret (v:=.tuple #[]) (by simp [results,Tryz.results83,go_sem]) rfl HP.out
def lvK (k:Int) (s:List UInt8):Nat:=if k=7 then levelOf s else if k=6 then 7 else 8
theorem zhP (k:Int) (s:List UInt8):lvK k s≤8:=by
 unfold lvK
 have:=YK s
 split
 ·omega
 ·split <;> omega
theorem qt (k:Int) (s:List UInt8) (n:Int) (base:Option Addr) (m cap:Nat) (line:Int) (w:World) (ht:ZC w) :
  Calls Tryz.prog 147 #[yz k s n base m cap line] w fun e w'=>e=.returned (.int .i64 (lvK k s:Int))∧Below w.heap.size w w':=by
 obtain ⟨w1,h⟩:∃w1,w1=w.alloc (YD k s n base m cap line):=⟨_,rfl⟩;have o:Below w.heap.size w w1:=by rw [h];exact (Below.refl _ w).alloc (Nat.le_refl _) _
 have A:w1.heap[w.heap.size]?=some (.cells #[.int .i64 k,.string (zb s),.int .i64 n,.slice base m cap,.int .i64 line] 45 (0,0)):=by rw [h];exact World.alloc_heap_new w _
 have L:w1.cell? ⟨w.heap.size,0,none⟩=some (.int .i64 k):=by simp only [World.cell?,A];rfl
 have c1:w1.cell? ⟨w.heap.size,1,none⟩=some (.string (zb s)):=by simp only [World.cell?,A];rfl
 have D:=Xz s w1 (fun j v hj=>by rw [h];exact zl (ht j v hj) _)
 have H:Hid (Below w.heap.size w w1):=o;have I:=h.symm;clear o A h ht
 by_cases h7:k=7
 ·have G:Hid (lvK k s=levelOf s):=show _=_ by unfold lvK;rw [if_pos h7]
  subst h7
  go_enter Tryz.func147,Tryz.ntmps147
  go_wp2_with fail
  refine D.mono ?_;rintro e J ⟨rfl,y⟩;have z:Hid (Below w.heap.size w J):=zp H.out y;clear y D;go_wp2
  exact bodyPost_ret (v:=.int .i64 (levelOf s:Int)) (by simp [results,Tryz.results147,go_sem]) rfl ⟨by rw [G.out],z.out⟩
 ·have O:(k==7)=false:=by rw [beq_eq_false_iff_ne];exact h7
  clear D
  by_cases h6:k=6
  ·subst h6
   go_enter Tryz.func147,Tryz.ntmps147
   go_wp2
   exact bodyPost_ret (v:=.int .i64 7) (by simp [results,Tryz.results147,go_sem]) rfl ⟨rfl,H.out⟩
  ·have N:(k==6)=false:=by rw [beq_eq_false_iff_ne];exact h6
   have G:Hid (lvK k s=8):=show _=_ by unfold lvK;rw [if_neg h7,if_neg h6]
   go_enter Tryz.func147,Tryz.ntmps147
   go_wp2
   exact bodyPost_ret (v:=.int .i64 8) (by simp [results,Tryz.results147,go_sem]) rfl ⟨by rw [G.out];rfl,H.out⟩
def yN (w0:World) (d:Nat):Prop:=∀(x:Ez) (v:Value) (r:Nat) (q:Option Nat) (t:List UInt8) (w:World),Zy w0.heap.size w0 x v→zy w0 r q t w→Calls Tryz.prog 42 #[.pointer (some ⟨r,0,none⟩),v,.int .i64 (d:Int)] w (zo w0 r q t w (prE d x))
theorem VG (w0:World) (d:Nat) (hX:yN w0 d) (hl:ZC w0) (x:Ez) (v:Value) (least r:Nat) (q:Option Nat) (t:List UInt8) (w:World) (hx:Zy w0.heap.size w0 x v) (h:zy w0 r q t w) :
  Calls Tryz.prog 124 #[.pointer (some ⟨r,0,none⟩),v,.int .i64 (least:Int),.int .i64 (d:Int)] w (zo w0 r q t w (kidO x least (prE d x))):=by
 have an:=hx;obtain ⟨k,s,n,kids,line,y,G,b,o,us,hs,az,av,ab,ag,hc,hm,ae,aa,hk⟩:=hx;obtain ⟨w1,H⟩:∃w1,w1=w.alloc (YD k s n y kids.length G line):=⟨_,rfl⟩;have ad:Below w.heap.size w w1:=by rw [H];exact (Below.refl _ w).alloc (Nat.le_refl _) _
 have p1:w1.heap[w.heap.size]?=some (.cells #[.int .i64 k,.string (zb s),.int .i64 n,.slice y kids.length G,.int .i64 line] 45 (0,0)):=by rw [H];exact World.alloc_heap_new w _
 have h1:=h.below ad;have cl:=qt k s n y kids.length G line w1 (fun j v hj=>by rw [h1.env.cell (World.block_lt_of_cell? w0 _ (hl j v hj))];exact hl j v hj)
 have aq:w1.heap.size=w.heap.size+1:=by rw [H];simp
 have ay:=zhP k s;have HR:Hid (kidO (.mk k s n kids line) least (prE d (.mk k s n kids line))=if least≤lvK k s then prE d (.mk k s n kids line) else zc (some [40]) (zc (prE d (.mk k s n kids line)) (some [41]))):=rfl
 have V:Hid (∀(q:Option Nat) (t:List UInt8) (w:World),zy w0 r q t w→Calls Tryz.prog 42 #[.pointer (some ⟨r,0,none⟩),yz k s n y kids.length G line,.int .i64 (d:Int)] w (zo w0 r q t w (prE d (.mk k s n kids line)))):=fun q t w h=>hX _ _ r q t w an h
 have hr:=h.lt.1;have N:=h.lt.2;generalize kidO (.mk k s n kids line) least (prE d (.mk k s n kids line))=R at *;generalize prE d (.mk k s n kids line)=X at *;generalize kids.length=m at *
 have z:∀W:World,W.heap[w.heap.size]?=w1.heap[w.heap.size]?→W.cell? ⟨w.heap.size,0,none⟩=some (.int .i64 k)∧W.cell? ⟨w.heap.size,1,none⟩=some (.string (zb s))∧W.cell? ⟨w.heap.size,2,none⟩=some (.int .i64 n)∧W.cell? ⟨w.heap.size,3,none⟩=some (.slice y m G)∧W.cell? ⟨w.heap.size,4,none⟩=some (.int .i64 line):=fun W hW=>by
  rw [p1] at hW;refine ⟨?_,?_,?_,?_,?_⟩ <;> (simp only [World.cell?,hW];rfl)
 have Q:Hid (∀W:World,W.heap[w.heap.size]?=w1.heap[w.heap.size]?→W.cell? ⟨w.heap.size,0,none⟩=some (.int .i64 k)∧W.cell? ⟨w.heap.size,1,none⟩=some (.string (zb s))∧W.cell? ⟨w.heap.size,2,none⟩=some (.int .i64 n)∧W.cell? ⟨w.heap.size,3,none⟩=some (.slice y m G)∧W.cell? ⟨w.heap.size,4,none⟩=some (.int .i64 line)):=z;obtain ⟨c0,c1,c2,c3,c4⟩:=z w1 rfl;have al:Hid (zy w0 r q t w1):=h1;have am:Hid (zT r q w q w1):=zT.below ad;have ar:=H.symm;clear H p1 ad h1 h an z hX hl ab ag hc ae aa hk;generalize hLV:lvK k s=L at *;clear hLV
 go_enter Tryz.func124,Tryz.ntmps124
 go_wp2_with fail
 refine cl.mono ?_;clear cl;rintro e w2 ⟨rfl,D⟩;obtain ⟨c0,c1,c2,c3,c4⟩:=Q.out w2 (D.block _ (by omega))
 have au:=D.size;have af:Hid (w2.heap[w.heap.size]?=w1.heap[w.heap.size]?):=D.block _ (by omega)
 have T:Hid (zy w0 r q t w2):=al.out.below D;have U:Hid (zT r q w q w2):=am.out.trans (zT.below D);clear D al am;have hR:=HR.out;clear HR
 by_cases hle:least≤L
 ·rw [if_pos hle] at hR
  subst hR;have cx:=V.out q t w2 T.out;have h9:(least:Int)≤(L:Int):=by omega
  go_wp2_with fail
  refine cx.mono ?_;clear cx;rintro e Y ⟨q3,aj,hp⟩;have I:=U.out.trans aj;cases R with
  | none=>subst hp;exact ⟨rfl,q3,I,rfl⟩
  | some u =>
   obtain ⟨rfl,hw⟩:=hp;have HP:Hid (zo w0 r q t w (some u) (.returned (.tuple #[])) Y):=⟨q3,I,rfl,hw⟩;clear aj hw I U T V Q af;go_wp2
   exact bodyPost_ret (v:=.tuple #[]) (by simp [results,Tryz.results124,go_sem]) rfl HP.out
 ·rw [if_neg hle] at hR
  subst hR;have cp:=zx w0 r q t [40] w2 T.out (by simp)
  have h9:¬ (least:Int)≤(L:Int):=by omega
  go_wp2_with fail
  refine cp.mono ?_;clear cp;rintro e Y ⟨q3,A,rfl,ak⟩;have O:Hid (zT r q w q3 Y):=U.out.trans A;have Z:Y.heap[w.heap.size]?=w2.heap[w.heap.size]?:=A.block _ (by omega) (by omega) (fun e=>by have:=N _ e;omega)
  have ao:Hid (Y.heap[w.heap.size]?=w1.heap[w.heap.size]?):=Z.trans af.out;obtain ⟨c0,c1,c2,c3,c4⟩:=Q.out Y ao.out;have cx:=V.out q3 (t++[40]) Y ak;have ax:=A.size
  have aw:∀k,q3=some k→k≠w.heap.size:=fun k hk=>by
   rcases O.out.row with e | e
   ·have:=N k (e ▸ hk);omega
   ·rcases A.row with e2 | e2
    ·have:=N k (e2 ▸ hk);omega
    ·have:=e2 k hk;omega
  clear A ak Z;go_wp2_with fail
  refine cx.mono ?_;clear cx;rintro e w4 ⟨q4,J,hp⟩;cases X with
  | none=>subst hp;exact ⟨rfl,zo.seq O.out (zo.stop J rfl)⟩
  | some u =>
   obtain ⟨rfl,ai⟩:=hp;have ah:Hid (zT r q3 Y q4 w4):=J;have cp:=zx w0 r q4 (t++[40]++u) [41] w4 ai (by simp)
   clear J ai;go_wp2_with fail
   refine cp.mono ?_;clear cp;rintro e w5 ap;have HP:Hid (zo w0 r q t w (zc (some [40]) (zc (some u) (some [41]))) e w5):=zo.seq O.out (zo.seq ah.out ap);obtain ⟨-,-,rfl,-⟩:=ap;clear O ah T U V Q af ao;go_wp2
   exact bodyPost_ret (v:=.tuple #[]) (by simp [results,Tryz.results124,go_sem]) rfl HP.out
structure zr (r:Nat) (q0:Option Nat) (w w1:World) (q:Option Nat) (W:World):Prop where
 unto:zT r q0 w q W
 hr:r<w.heap.size
 block:∀k,w.heap.size≤k→k<w1.heap.size→W.heap[k]?=w1.heap[k]?
 hq:∀k,q=some k→k<w.heap.size∨w1.heap.size≤k
 size:w1.heap.size≤W.heap.size
theorem zr.step {r:Nat} {q0 q q':Option Nat} {w w1 W W':World} (h:zr r q0 w w1 q W) (ht:zT r q W q' W'):zr r q0 w w1 q' W':=by
 refine ⟨h.unto.trans ht,h.hr,fun k h1 h2=>?_,fun k hk=>?_,Nat.le_trans h.size ht.size⟩
 ·refine (ht.block k (Nat.lt_of_lt_of_le h2 h.size) (by have:=h.hr;omega) fun e=>?_).trans (h.block k h1 h2)
  rcases h.hq k e with o | o <;> omega
 ·rcases ht.row with e | e
  ·exact h.hq k (e ▸ hk)
  ·exact .inr (Nat.le_trans h.size (e k hk))
theorem zr.start {w0:World} {r:Nat} {q:Option Nat} {t:List UInt8} {w w1:World} (h:zy w0 r q t w) (hb:Below w.heap.size w w1):zr r q w w1 q w1 :=
 ⟨zT.below hb,h.lt.1,fun _ _ _=>rfl,fun k hk=>.inl (h.lt.2 k hk),Nat.le_refl _⟩
theorem zI {w:World} {N:Nat} {k:Int} {s:List UInt8} {n:Int} {base:Option Addr} {m cap:Nat} {line:Int} (p:w.heap[N]?=some (YD k s n base m cap line)) :
  w.cell? ⟨N,0,none⟩=some (.int .i64 k)∧w.cell? ⟨N,1,none⟩=some (.string (zb s))∧w.cell? ⟨N,2,none⟩=some (.int .i64 n)∧w.cell? ⟨N,3,none⟩=some (.slice base m cap)∧w.cell? ⟨N,4,none⟩=some (.int .i64 line):=by
 refine ⟨?_,?_,?_,?_,?_⟩ <;> (simp only [World.cell?,p];rfl)
structure ZZ (w0:World) (b p:Nat) (a1:Int) (a2:List UInt8) (a3:Int) (a4:Option Addr) (a5 a6:Nat) (a7:Int):Prop where
 lt:b<w0.heap.size
 c0:w0.cell? ⟨b,p,none⟩=some (.int .i64 a1)
 c1:w0.cell? ⟨b,p+1,none⟩=some (.string (zb a2))
 c2:w0.cell? ⟨b,p+2,none⟩=some (.int .i64 a3)
 c3:w0.cell? ⟨b,p+3,none⟩=some (.slice a4 a5 a6)
 c4:w0.cell? ⟨b,p+4,none⟩=some (.int .i64 a7)
theorem ZZ.now {w0 w:World} {b p:Nat} {a1:Int} {a2:List UInt8} {a3:Int} {a4:Option Addr} {a5 a6:Nat} {a7:Int} (h:ZZ w0 b p a1 a2 a3 a4 a5 a6 a7) (hb:Below w0.heap.size w0 w) :
  w.cell? ⟨b,p,none⟩=some (.int .i64 a1)∧w.cell? ⟨b,p+1,none⟩=some (.string (zb a2))∧w.cell? ⟨b,p+2,none⟩=some (.int .i64 a3)∧w.cell? ⟨b,p+3,none⟩=some (.slice a4 a5 a6)∧w.cell? ⟨b,p+4,none⟩=some (.int .i64 a7) :=
 ⟨(hb.cell h.lt).trans h.c0,(hb.cell h.lt).trans h.c1,(hb.cell h.lt).trans h.c2,(hb.cell h.lt).trans h.c3,(hb.cell h.lt).trans h.c4⟩
theorem zhQ (w0:World) (d:Nat) (D:Int) (hD:D-1=(d:Int)) (_hD1:1≤D) (hD2:D≤24) (hX:yN w0 d) (hl:ZC w0) (s:List UInt8) (n:Int) (b o cap r:Nat) (line:Int) (q:Option Nat) (t:List UInt8) (w:World) (hs:s.length≤100000000) (h:zy w0 r q t w) (x0:Ez) (a01:Int) (a02:List UInt8) (a03:Int) (a04:Option Addr) (a05 a06:Nat) (a07:Int) (hx0:Zy w0.heap.size w0 x0 (yz a01 a02 a03 a04 a05 a06 a07)) (hk0:ZZ w0 b (o) a01 a02 a03 a04 a05 a06 a07) :
  Calls Tryz.prog 84 #[.pointer (some ⟨r,0,none⟩),yz 6 s n (some ⟨b,o,none⟩) 1 cap line,.int .i64 D] w (zo w0 r q t w (zc (some s) (kidO x0 7 (prE d x0)))):=by
 obtain ⟨R,hR⟩:∃R,R=zc (some s) (kidO x0 7 (prE d x0)):=⟨_,rfl⟩;rw [←hR];have Z:Hid (∀(q:Option Nat) (t:List UInt8) (w:World),zy w0 r q t w→Calls Tryz.prog 124 #[.pointer (some ⟨r,0,none⟩),yz a01 a02 a03 a04 a05 a06 a07,.int .i64 ((7:Nat):Int),.int .i64 (d:Int)] w (zo w0 r q t w (kidO x0 (7) (prE d x0)))):=fun q t w h=>VG w0 d hX hl x0 _ (7) r q t w hx0 h
 obtain ⟨w1,y⟩:∃w1,w1=w.alloc (YD 6 s n (some ⟨b,o,none⟩) 1 cap line):=⟨_,rfl⟩;have I:Below w.heap.size w w1:=by rw [y];exact (Below.refl _ w).alloc (Nat.le_refl _) _
 have p1:w1.heap[w.heap.size]?=some (YD 6 s n (some ⟨b,o,none⟩) 1 cap line):=by rw [y];exact World.alloc_heap_new w _
 have af:w1.heap.size=w.heap.size+1:=by rw [y];simp
 have ae:=h.below I;have ad:Hid (zr r q w w1 q w1):=zr.start h I;generalize kidO x0 7 (prE d x0)=X0 at *;have HR:Hid (R=zc (some s) X0):=hR;have Q:Hid (zy w0 r q t w1):=ae;have J:Hid (w1.heap[w.heap.size]?=some (YD 6 s n (some ⟨b,o,none⟩) 1 cap line)):=p1;have H:Hid (ZZ w0 b (o) a01 a02 a03 a04 a05 a06 a07):=hk0;have ag:=y.symm;obtain ⟨W,c1,c2,T,U⟩:=zI p1;clear hR ae p1 y I h hX hl hx0 hk0
 go_enter Tryz.func84,Tryz.ntmps84
 have V:=zx w0 r q (t) s w1 Q.out (by omega)
 go_wp2_with fail
 refine V.mono ?_;clear V W c1 c2 T U;rintro e w2 ⟨q2,G,rfl,ab⟩;have A:Hid (zr r q w w1 q2 w2):=ad.out.step G;have L:Hid (zy w0 r q2 (t++s) w2):=ab;clear G ab;obtain ⟨W,c1,c2,T,U⟩:=zI ((A.out.block _ (Nat.le_refl _) (by omega)).trans J.out)
 have V:=Z.out q2 (t++s) w2 L.out;obtain ⟨k0,k1,k2,k3,k4⟩:=H.out.now L.out.env;go_wp2_with fail
 refine V.mono ?_;clear V W c1 c2 T U k0 k1 k2 k3 k4;rintro e w3 ⟨q3,z,aa⟩;cases X0 with
 | none=>subst aa;obtain rfl:R=none:=(by rw [HR.out];rfl);exact ⟨rfl,q3,(A.out.step z).unto,rfl⟩
 | some u0 =>
 obtain ⟨rfl,O⟩:=aa;have N:Hid (zr r q w w1 q3 w3):=A.out.step z;have Y:Hid (zy w0 r q3 (t++s++u0) w3):=O;clear z O;obtain ⟨W,c1,c2,T,U⟩:=zI ((N.out.block _ (Nat.le_refl _) (by omega)).trans J.out)
 obtain rfl:R=some (s++(u0)):=by rw [HR.out];rfl
 have HP:Hid (zo w0 r q t w (some (s++(u0))) (.returned (.tuple #[])) w3):=⟨q3,N.out.unto,rfl,by have:=Y.out;simpa only [List.append_assoc] using this⟩
 clear ad Q A L N Y W c1 c2 T U HR J Z H;go_wp2
 exact bodyPost_ret (v:=.tuple #[]) (by simp [results,Tryz.results84,go_sem]) rfl HP.out
theorem zhR (w0:World) (d:Nat) (D:Int) (hD:D-1=(d:Int)) (_hD1:1≤D) (hD2:D≤24) (hX:yN w0 d) (hl:ZC w0) (s:List UInt8) (n:Int) (b o cap r:Nat) (line:Int) (q:Option Nat) (t:List UInt8) (w:World) (hs:s.length≤100000000) (h:zy w0 r q t w) (x0:Ez) (a01:Int) (a02:List UInt8) (a03:Int) (a04:Option Addr) (a05 a06:Nat) (a07:Int) (hx0:Zy w0.heap.size w0 x0 (yz a01 a02 a03 a04 a05 a06 a07)) (hk0:ZZ w0 b (o) a01 a02 a03 a04 a05 a06 a07) (x1:Ez) (a11:Int) (a12:List UInt8) (a13:Int) (a14:Option Addr) (a15 a16:Nat) (a17:Int) (hx1:Zy w0.heap.size w0 x1 (yz a11 a12 a13 a14 a15 a16 a17)) (hk1:ZZ w0 b (o+5) a11 a12 a13 a14 a15 a16 a17) :
  Calls Tryz.prog 84 #[.pointer (some ⟨r,0,none⟩),yz 7 s n (some ⟨b,o,none⟩) 2 cap line,.int .i64 D] w (zo w0 r q t w (zc (kidO x0 (levelOf s) (prE d x0)) (zc (some [32]) (zc (some s) (zc (some [32]) (kidO x1 (levelOf s+1) (prE d x1))))))):=by
 obtain ⟨R,hR⟩:∃R,R=zc (kidO x0 (levelOf s) (prE d x0)) (zc (some [32]) (zc (some s) (zc (some [32]) (kidO x1 (levelOf s+1) (prE d x1))))):=⟨_,rfl⟩;rw [←hR];have af:Hid (∀(q:Option Nat) (t:List UInt8) (w:World),zy w0 r q t w→Calls Tryz.prog 124 #[.pointer (some ⟨r,0,none⟩),yz a01 a02 a03 a04 a05 a06 a07,.int .i64 (((levelOf s):Nat):Int),.int .i64 (d:Int)] w (zo w0 r q t w (kidO x0 ((levelOf s)) (prE d x0)))):=fun q t w h=>VG w0 d hX hl x0 _ ((levelOf s)) r q t w hx0 h
 have ai:Hid (∀(q:Option Nat) (t:List UInt8) (w:World),zy w0 r q t w→Calls Tryz.prog 124 #[.pointer (some ⟨r,0,none⟩),yz a11 a12 a13 a14 a15 a16 a17,.int .i64 (((levelOf s+1):Nat):Int),.int .i64 (d:Int)] w (zo w0 r q t w (kidO x1 ((levelOf s+1)) (prE d x1)))):=fun q t w h=>VG w0 d hX hl x1 _ ((levelOf s+1)) r q t w hx1 h
 obtain ⟨w1,I⟩:∃w1,w1=w.alloc (YD 7 s n (some ⟨b,o,none⟩) 2 cap line):=⟨_,rfl⟩;have aa:Below w.heap.size w w1:=by rw [I];exact (Below.refl _ w).alloc (Nat.le_refl _) _
 have p1:w1.heap[w.heap.size]?=some (YD 7 s n (some ⟨b,o,none⟩) 2 cap line):=by rw [I];exact World.alloc_heap_new w _
 have aB:w1.heap.size=w.heap.size+1:=by rw [I];simp
 have aj:=h.below aa;have ax:Hid (zr r q w w1 q w1):=zr.start h aa;have cl:=Xz s w1 (fun j v hj=>by rw [aj.env.cell (World.block_lt_of_cell? w0 _ (hl j v hj))];exact hl j v hj)
 have av:=YK s;obtain ⟨L,hL⟩:∃L,L=levelOf s:=⟨_,rfl⟩;rw [←hL] at cl av hR af ai;clear hL;generalize kidO x0 L (prE d x0)=X0 at *;generalize kidO x1 (L+1) (prE d x1)=X1 at *;have HR:Hid (R=zc X0 (zc (some [32]) (zc (some s) (zc (some [32]) X1)))):=hR;have an:Hid (zy w0 r q t w1):=aj;have y:Hid (w1.heap[w.heap.size]?=some (YD 7 s n (some ⟨b,o,none⟩) 2 cap line)):=p1;have V:Hid (ZZ w0 b (o) a01 a02 a03 a04 a05 a06 a07):=hk0;have W:Hid (ZZ w0 b (o+5) a11 a12 a13 a14 a15 a16 a17):=hk1;have aC:=I.symm;obtain ⟨H,c1,c2,A,G⟩:=zI p1;clear hR aj p1 I aa h hX hl hx0 hk0 hx1 hk1
 go_enter Tryz.func84,Tryz.ntmps84
 go_wp2_with fail
 refine cl.mono ?_;clear cl H c1 c2 A G;rintro e w2 ⟨rfl,ad⟩;have Q:Hid (zr r q w w1 q w2):=ax.out.step (zT.below ad);have ag:Hid (zy w0 r q (t) w2):=an.out.below ad;clear ad;obtain ⟨H,c1,c2,A,G⟩:=zI ((Q.out.block _ (Nat.le_refl _) (by omega)).trans y.out)
 have z:=af.out q (t) w2 ag.out;obtain ⟨k0,k1,k2,k3,k4⟩:=V.out.now ag.out.env;go_wp2_with fail
 refine z.mono ?_;clear z H c1 c2 A G k0 k1 k2 k3 k4;rintro e w3 ⟨q3,N,au⟩;cases X0 with
 | none=>subst au;obtain rfl:R=none:=(by rw [HR.out];rfl);exact ⟨rfl,q3,(Q.out.step N).unto,rfl⟩
 | some u0 =>
 obtain ⟨rfl,al⟩:=au;have ah:Hid (zr r q w w1 q3 w3):=Q.out.step N;have ar:Hid (zy w0 r q3 (t++u0) w3):=al;clear N al;obtain ⟨H,c1,c2,A,G⟩:=zI ((ah.out.block _ (Nat.le_refl _) (by omega)).trans y.out)
 have z:=zx w0 r q3 (t++u0) [32] w3 ar.out (by simp)
 go_wp2_with fail
 refine z.mono ?_;clear z H c1 c2 A G;rintro e w4 ⟨q4,T,rfl,am⟩;have Z:Hid (zr r q w w1 q4 w4):=ah.out.step T;have ao:Hid (zy w0 r q4 (t++u0++[32]) w4):=am;clear T am;obtain ⟨H,c1,c2,A,G⟩:=zI ((Z.out.block _ (Nat.le_refl _) (by omega)).trans y.out)
 have z:=zx w0 r q4 (t++u0++[32]) s w4 ao.out (by omega)
 go_wp2_with fail
 refine z.mono ?_;clear z H c1 c2 A G;rintro e w5 ⟨q5,Y,rfl,ay⟩;have ae:Hid (zr r q w w1 q5 w5):=Z.out.step Y;have aA:Hid (zy w0 r q5 (t++u0++[32]++s) w5):=ay;clear Y ay;obtain ⟨H,c1,c2,A,G⟩:=zI ((ae.out.block _ (Nat.le_refl _) (by omega)).trans y.out)
 have z:=zx w0 r q5 (t++u0++[32]++s) [32] w5 aA.out (by simp)
 go_wp2_with fail
 refine z.mono ?_;clear z H c1 c2 A G;rintro e w6 ⟨q6,U,rfl,aw⟩;have O:Hid (zr r q w w1 q6 w6):=ae.out.step U;have ab:Hid (zy w0 r q6 (t++u0++[32]++s++[32]) w6):=aw;clear U aw;obtain ⟨H,c1,c2,A,G⟩:=zI ((O.out.block _ (Nat.le_refl _) (by omega)).trans y.out)
 have z:=ai.out q6 (t++u0++[32]++s++[32]) w6 ab.out;obtain ⟨k0,k1,k2,k3,k4⟩:=W.out.now ab.out.env;go_wp2_with fail
 refine z.mono ?_;clear z H c1 c2 A G k0 k1 k2 k3 k4;rintro e w7 ⟨q7,J,ap⟩;cases X1 with
 | none=>subst ap;obtain rfl:R=none:=(by rw [HR.out];rfl);exact ⟨rfl,q7,(O.out.step J).unto,rfl⟩
 | some u1 =>
 obtain ⟨rfl,az⟩:=ap;have ak:Hid (zr r q w w1 q7 w7):=O.out.step J;have aq:Hid (zy w0 r q7 (t++u0++[32]++s++[32]++u1) w7):=az;clear J az;obtain ⟨H,c1,c2,A,G⟩:=zI ((ak.out.block _ (Nat.le_refl _) (by omega)).trans y.out)
 obtain rfl:R=some (u0++([32]++(s++([32]++(u1))))):=by rw [HR.out];rfl
 have HP:Hid (zo w0 r q t w (some (u0++([32]++(s++([32]++(u1)))))) (.returned (.tuple #[])) w7):=⟨q7,ak.out.unto,rfl,by have:=aq.out;simpa only [List.append_assoc] using this⟩
 clear ax an Q ag ah ar Z ao ae aA O ab ak aq H c1 c2 A G HR y af ai V W;go_wp2
 exact bodyPost_ret (v:=.tuple #[]) (by simp [results,Tryz.results84,go_sem]) rfl HP.out
theorem zhS (w0:World) (d:Nat) (D:Int) (hD:D-1=(d:Int)) (_hD1:1≤D) (hD2:D≤24) (hX:yN w0 d) (hl:ZC w0) (s:List UInt8) (n:Int) (b o cap r:Nat) (line:Int) (q:Option Nat) (t:List UInt8) (w:World) (h:zy w0 r q t w) (x0:Ez) (a01:Int) (a02:List UInt8) (a03:Int) (a04:Option Addr) (a05 a06:Nat) (a07:Int) (hx0:Zy w0.heap.size w0 x0 (yz a01 a02 a03 a04 a05 a06 a07)) (hk0:ZZ w0 b (o) a01 a02 a03 a04 a05 a06 a07) (x1:Ez) (a11:Int) (a12:List UInt8) (a13:Int) (a14:Option Addr) (a15 a16:Nat) (a17:Int) (hx1:Zy w0.heap.size w0 x1 (yz a11 a12 a13 a14 a15 a16 a17)) (hk1:ZZ w0 b (o+5) a11 a12 a13 a14 a15 a16 a17) :
  Calls Tryz.prog 84 #[.pointer (some ⟨r,0,none⟩),yz 8 s n (some ⟨b,o,none⟩) 2 cap line,.int .i64 D] w (zo w0 r q t w (zc (kidO x0 8 (prE d x0)) (zc (some [91]) (zc (prE d x1) (some [93]))))):=by
 obtain ⟨R,hR⟩:∃R,R=zc (kidO x0 8 (prE d x0)) (zc (some [91]) (zc (prE d x1) (some [93]))):=⟨_,rfl⟩;rw [←hR];have ai:Hid (∀(q:Option Nat) (t:List UInt8) (w:World),zy w0 r q t w→Calls Tryz.prog 124 #[.pointer (some ⟨r,0,none⟩),yz a01 a02 a03 a04 a05 a06 a07,.int .i64 ((8:Nat):Int),.int .i64 (d:Int)] w (zo w0 r q t w (kidO x0 (8) (prE d x0)))):=fun q t w h=>VG w0 d hX hl x0 _ (8) r q t w hx0 h
 have al:Hid (∀(q:Option Nat) (t:List UInt8) (w:World),zy w0 r q t w→Calls Tryz.prog 42 #[.pointer (some ⟨r,0,none⟩),yz a11 a12 a13 a14 a15 a16 a17,.int .i64 (d:Int)] w (zo w0 r q t w (prE d x1))):=fun q t w h=>hX x1 _ r q t w hx1 h
 obtain ⟨w1,A⟩:∃w1,w1=w.alloc (YD 8 s n (some ⟨b,o,none⟩) 2 cap line):=⟨_,rfl⟩;have Y:Below w.heap.size w w1:=by rw [A];exact (Below.refl _ w).alloc (Nat.le_refl _) _
 have p1:w1.heap[w.heap.size]?=some (YD 8 s n (some ⟨b,o,none⟩) 2 cap line):=by rw [A];exact World.alloc_heap_new w _
 have aq:w1.heap.size=w.heap.size+1:=by rw [A];simp
 have am:=h.below Y;have ab:Hid (zr r q w w1 q w1):=zr.start h Y;generalize kidO x0 8 (prE d x0)=X0 at *;generalize prE d x1=X1 at *;have HR:Hid (R=zc X0 (zc (some [91]) (zc X1 (some [93])))):=hR;have W:Hid (zy w0 r q t w1):=am;have H:Hid (w1.heap[w.heap.size]?=some (YD 8 s n (some ⟨b,o,none⟩) 2 cap line)):=p1;have O:Hid (ZZ w0 b (o) a01 a02 a03 a04 a05 a06 a07):=hk0;have Q:Hid (ZZ w0 b (o+5) a11 a12 a13 a14 a15 a16 a17):=hk1;have ar:=A.symm;obtain ⟨L,c1,c2,I,J⟩:=zI p1;clear hR am p1 A Y h hX hl hx0 hk0 hx1 hk1
 go_enter Tryz.func84,Tryz.ntmps84
 have y:=ai.out q (t) w1 W.out;obtain ⟨k0,k1,k2,k3,k4⟩:=O.out.now W.out.env;go_wp2_with fail
 refine y.mono ?_;clear y L c1 c2 I J k0 k1 k2 k3 k4;rintro e w2 ⟨q2,G,ao⟩;cases X0 with
 | none=>subst ao;obtain rfl:R=none:=(by rw [HR.out];rfl);exact ⟨rfl,q2,(ab.out.step G).unto,rfl⟩
 | some u0 =>
 obtain ⟨rfl,aj⟩:=ao;have ad:Hid (zr r q w w1 q2 w2):=ab.out.step G;have ak:Hid (zy w0 r q2 (t++u0) w2):=aj;clear G aj;obtain ⟨L,c1,c2,I,J⟩:=zI ((ad.out.block _ (Nat.le_refl _) (by omega)).trans H.out)
 have y:=zx w0 r q2 (t++u0) [91] w2 ak.out (by simp)
 go_wp2_with fail
 refine y.mono ?_;clear y L c1 c2 I J;rintro e w3 ⟨q3,U,rfl,ae⟩;have N:Hid (zr r q w w1 q3 w3):=ad.out.step U;have Z:Hid (zy w0 r q3 (t++u0++[91]) w3):=ae;clear U ae;obtain ⟨L,c1,c2,I,J⟩:=zI ((N.out.block _ (Nat.le_refl _) (by omega)).trans H.out)
 have y:=al.out q3 (t++u0++[91]) w3 Z.out;obtain ⟨k0,k1,k2,k3,k4⟩:=Q.out.now Z.out.env;go_wp2_with fail
 refine y.mono ?_;clear y L c1 c2 I J k0 k1 k2 k3 k4;rintro e w4 ⟨q4,z,ag⟩;cases X1 with
 | none=>subst ag;obtain rfl:R=none:=(by rw [HR.out];rfl);exact ⟨rfl,q4,(N.out.step z).unto,rfl⟩
 | some u1 =>
 obtain ⟨rfl,af⟩:=ag;have V:Hid (zr r q w w1 q4 w4):=N.out.step z;have ah:Hid (zy w0 r q4 (t++u0++[91]++u1) w4):=af;clear z af;obtain ⟨L,c1,c2,I,J⟩:=zI ((V.out.block _ (Nat.le_refl _) (by omega)).trans H.out)
 have y:=zx w0 r q4 (t++u0++[91]++u1) [93] w4 ah.out (by simp)
 go_wp2_with fail
 refine y.mono ?_;clear y L c1 c2 I J;rintro e w5 ⟨q5,T,rfl,an⟩;have aa:Hid (zr r q w w1 q5 w5):=V.out.step T;have ap:Hid (zy w0 r q5 (t++u0++[91]++u1++[93]) w5):=an;clear T an;obtain ⟨L,c1,c2,I,J⟩:=zI ((aa.out.block _ (Nat.le_refl _) (by omega)).trans H.out)
 obtain rfl:R=some (u0++([91]++(u1++([93])))):=by rw [HR.out];rfl
 have HP:Hid (zo w0 r q t w (some (u0++([91]++(u1++([93]))))) (.returned (.tuple #[])) w5):=⟨q5,aa.out.unto,rfl,by have:=ap.out;simpa only [List.append_assoc] using this⟩
 clear ab W ad ak N Z V ah aa ap L c1 c2 I J HR H ai al O Q;go_wp2
 exact bodyPost_ret (v:=.tuple #[]) (by simp [results,Tryz.results84,go_sem]) rfl HP.out
theorem zhT (w0:World) (d:Nat) (D:Int) (hD:D-1=(d:Int)) (_hD1:1≤D) (hD2:D≤24) (hX:yN w0 d) (hT:ZE w0) (hl:ZC w0) (s:List UInt8) (n:Int) (b o cap r:Nat) (line:Int) (q:Option Nat) (t:List UInt8) (w:World) (hs:s.length≤100000000) (h:zy w0 r q t w) (x0:Ez) (a01:Int) (a02:List UInt8) (a03:Int) (a04:Option Addr) (a05 a06:Nat) (a07:Int) (hx0:Zy w0.heap.size w0 x0 (yz a01 a02 a03 a04 a05 a06 a07)) (hk0:ZZ w0 b (o) a01 a02 a03 a04 a05 a06 a07) :
  Calls Tryz.prog 84 #[.pointer (some ⟨r,0,none⟩),yz 9 s n (some ⟨b,o,none⟩) 1 cap line,.int .i64 D] w (zo w0 r q t w (zc (kidO x0 8 (prE d x0)) (zc (some [46]) (tokO 1 0 s)))):=by
 obtain ⟨R,hR⟩:∃R,R=zc (kidO x0 8 (prE d x0)) (zc (some [46]) (tokO 1 0 s)):=⟨_,rfl⟩;rw [←hR];have af:Hid (∀(q:Option Nat) (t:List UInt8) (w:World),zy w0 r q t w→Calls Tryz.prog 124 #[.pointer (some ⟨r,0,none⟩),yz a01 a02 a03 a04 a05 a06 a07,.int .i64 ((8:Nat):Int),.int .i64 (d:Int)] w (zo w0 r q t w (kidO x0 (8) (prE d x0)))):=fun q t w h=>VG w0 d hX hl x0 _ (8) r q t w hx0 h
 have ai:Hid (∀(q:Option Nat) (t:List UInt8) (w:World),zy w0 r q t w→Calls Tryz.prog 82 #[.pointer (some ⟨r,0,none⟩),.string (zb s)] w (zo w0 r q t w (tokO 1 0 s))):=fun q t w h=>yx w0 r q t s w hT h hs
 obtain ⟨w1,z⟩:∃w1,w1=w.alloc (YD 9 s n (some ⟨b,o,none⟩) 1 cap line):=⟨_,rfl⟩;have Q:Below w.heap.size w w1:=by rw [z];exact (Below.refl _ w).alloc (Nat.le_refl _) _
 have p1:w1.heap[w.heap.size]?=some (YD 9 s n (some ⟨b,o,none⟩) 1 cap line):=by rw [z];exact World.alloc_heap_new w _
 have al:w1.heap.size=w.heap.size+1:=by rw [z];simp
 have aj:=h.below Q;have W:Hid (zr r q w w1 q w1):=zr.start h Q;generalize kidO x0 8 (prE d x0)=X0 at *;generalize tokO 1 0 s=X1 at *;have HR:Hid (R=zc X0 (zc (some [46]) X1)):=hR;have O:Hid (zy w0 r q t w1):=aj;have G:Hid (w1.heap[w.heap.size]?=some (YD 9 s n (some ⟨b,o,none⟩) 1 cap line)):=p1;have J:Hid (ZZ w0 b (o) a01 a02 a03 a04 a05 a06 a07):=hk0;have am:=z.symm;obtain ⟨V,c1,c2,T,U⟩:=zI p1;clear hR aj p1 z Q h hX hl hT hx0 hk0
 go_enter Tryz.func84,Tryz.ntmps84
 have I:=af.out q (t) w1 O.out;obtain ⟨k0,k1,k2,k3,k4⟩:=J.out.now O.out.env;go_wp2_with fail
 refine I.mono ?_;clear I V c1 c2 T U k0 k1 k2 k3 k4;rintro e w2 ⟨q2,A,ak⟩;cases X0 with
 | none=>subst ak;obtain rfl:R=none:=(by rw [HR.out];rfl);exact ⟨rfl,q2,(W.out.step A).unto,rfl⟩
 | some u0 =>
 obtain ⟨rfl,ag⟩:=ak;have Y:Hid (zr r q w w1 q2 w2):=W.out.step A;have ah:Hid (zy w0 r q2 (t++u0) w2):=ag;clear A ag;obtain ⟨V,c1,c2,T,U⟩:=zI ((Y.out.block _ (Nat.le_refl _) (by omega)).trans G.out)
 have I:=zx w0 r q2 (t++u0) [46] w2 ah.out (by simp)
 go_wp2_with fail
 refine I.mono ?_;clear I V c1 c2 T U;rintro e w3 ⟨q3,L,rfl,Z⟩;have H:Hid (zr r q w w1 q3 w3):=Y.out.step L;have ae:Hid (zy w0 r q3 (t++u0++[46]) w3):=Z;clear L Z;obtain ⟨V,c1,c2,T,U⟩:=zI ((H.out.block _ (Nat.le_refl _) (by omega)).trans G.out)
 have I:=ai.out q3 (t++u0++[46]) w3 ae.out;go_wp2_with fail
 refine I.mono ?_;clear I V c1 c2 T U;rintro e w4 ⟨q4,y,ab⟩;cases X1 with
 | none=>subst ab;obtain rfl:R=none:=(by rw [HR.out];rfl);exact ⟨rfl,q4,(H.out.step y).unto,rfl⟩
 | some u1 =>
 obtain ⟨rfl,aa⟩:=ab;have N:Hid (zr r q w w1 q4 w4):=H.out.step y;have ad:Hid (zy w0 r q4 (t++u0++[46]++u1) w4):=aa;clear y aa;obtain ⟨V,c1,c2,T,U⟩:=zI ((N.out.block _ (Nat.le_refl _) (by omega)).trans G.out)
 obtain rfl:R=some (u0++([46]++(u1))):=by rw [HR.out];rfl
 have HP:Hid (zo w0 r q t w (some (u0++([46]++(u1)))) (.returned (.tuple #[])) w4):=⟨q4,N.out.unto,rfl,by have:=ad.out;simpa only [List.append_assoc] using this⟩
 clear W O Y ah H ae N ad V c1 c2 T U HR G af ai J;go_wp2
 exact bodyPost_ret (v:=.tuple #[]) (by simp [results,Tryz.results84,go_sem]) rfl HP.out
end Go.Proofs.YtpejpbbdgblbeaaGreatDoor
