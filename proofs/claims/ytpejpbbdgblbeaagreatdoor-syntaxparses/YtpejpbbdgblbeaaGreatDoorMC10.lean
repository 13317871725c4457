import Derived.Test.YtpejpbbdgblbeaaGreatDoorMC9
namespace Go.Proofs.YtpejpbbdgblbeaaGreatDoor
open Go.RowKit Go.Shelf
set_option maxHeartbeats 16000000
set_option maxRecDepth 100000
theorem QR (l:List (Option (List UInt8))) {i:Nat} (h:rowO l i=none):∀k,rowO l (i+k)=none
 | 0=>h
 | k+1=>by
  show rowO l (i+k+1)=none
  rw [rowO,QR l h k];rfl
theorem QS (l:List (Option (List UInt8))) {i m:Nat} (hi:i<m) (h:(l[i]?).getD none=none):rowO l m=none:=by
 have h1:rowO l (i+1)=none:=by
  rw [rowO,h]
  cases rowO l i <;> rfl
 have:=QR l h1 (m-(i+1))
 rwa [show i+1+(m-(i+1))=m by omega] at this
theorem zhj {sz:Nat} {us:List (List Value)} (hfive:∀c∈us,c.length=sz) {i j:Nat} {c:List Value} (hc:us[i]?=some c) (hj:j<sz):us.flatten[i*sz+j]?=c[j]?:=by
 induction us generalizing i with
 | nil=>simp at hc
 | cons d us ih =>
  have hd:d.length=sz:=hfive d (by simp)
  cases i with
  | zero =>
   simp only [List.getElem?_cons_zero,Option.some.injEq] at hc;subst hc;rw [List.flatten_cons,List.getElem?_append_left (by omega)]
   simp
  | succ i =>
   have e:(i+1)*sz=i*sz+sz:=Nat.succ_mul i sz;rw [List.flatten_cons,List.getElem?_append_right (by omega)]
   rw [show (i+1)*sz+j-d.length=i*sz+j by omega]
   exact ih (fun c hc=>hfive c (by simp [hc])) (by simpa using hc)
theorem ZJ.kid {B:Nat} {w:World} {k:Int} {s:List UInt8} {n:Int} {kids:List Ez} {line:Int} {v:Value} (h:ZJ B w (.mk k s n kids line) v):∃base cap,v=Ye k s n base kids.length cap line∧kids.length≤cap∧cap≤maxLen∧s.length≤100000000∧-9223372036854775808≤n∧n≤9223372036854775807 ∧
  ∀i x,kids[i]?=some x→∃b o a1 a2 a3 a4 a5 a6 a7,base=some ⟨b,o,none⟩∧b<B∧b<w.heap.size∧ZJ B w x (Ye a1 a2 a3 a4 a5 a6 a7) ∧
   w.cell? ⟨b,o+i*5,none⟩=some (.int .i64 a1)∧w.cell? ⟨b,o+i*5+1,none⟩=some (.string (za a2))∧w.cell? ⟨b,o+i*5+2,none⟩=some (.int .i64 a3)∧w.cell? ⟨b,o+i*5+3,none⟩=some (.slice a4 a5 a6)∧w.cell? ⟨b,o+i*5+4,none⟩=some (.int .i64 a7):=by
 cases h with
 | mk k s n kids line base cap b o us hs hn0 hn1 hbase hlen hc hm hcell hfive hk =>
  refine ⟨base,cap,rfl,hc,hm,hs,hn0,hn1,fun i x hx=>?_⟩
  have hi:i<kids.length:=(List.getElem?_eq_some_iff.1 hx).1;have hne:kids≠[]:=by rintro rfl;simp at hi
  obtain ⟨hb1,hb2,hb3⟩:=hbase hne;obtain ⟨c,hc'⟩:∃c,us[i]?=some c:=⟨us[i]'(by omega),List.getElem?_eq_getElem (by omega)⟩
  have hxx:=hk i x c hx hc'
  obtain ⟨a1,a2,a3,a4,a5,a6,a7,hag⟩:∃a1 a2 a3 a4 a5 a6 a7,Value.agg c.toArray=Ye a1 a2 a3 a4 a5 a6 a7:=by
   generalize Value.agg c.toArray=V at hxx;cases hxx with
   | mk=>exact ⟨_,_,_,_,_,_,_,rfl⟩
  have hcl:c=[.int .i64 a1,.string (za a2),.int .i64 a3,.slice a4 a5 a6,.int .i64 a7]:=by
   have:=congrArg (fun v=>match v with | .agg a=>a.toList | _=>[]) hag
   simpa using this
  subst hcl
  have hat:∀j u,j<5→([.int .i64 a1,.string (za a2),.int .i64 a3,.slice a4 a5 a6,.int .i64 a7]:List Value)[j]?=some u→w.cell? ⟨b,o+i*5+j,none⟩=some u:=fun j u hj hu=>by
   rw [Nat.add_assoc];exact hcell _ _ ((zhj hfive hc' hj).trans hu)
  exact ⟨b,o,a1,a2,a3,a4,a5,a6,a7,hb1,hb2,hb3,hxx,hat 0 _ (by omega) rfl,hat 1 _ (by omega) rfl,hat 2 _ (by omega) rfl,hat 3 _ (by omega) rfl,hat 4 _ (by omega) rfl⟩
theorem VX (w0:World) (f:Ez→Option (List UInt8)) (l:List Ez) (base:Option Addr) (cap bw bd r:Nat) (q:Option Nat) (t:List UInt8) (w:World) (h:zH w0 r q t w) (hc:l.length≤cap) (hm:cap≤maxLen)
  (hl:∀i x,l[i]?=some x→∃b o a1 a2 a3 a4 a5 a6 a7,base=some ⟨b,o,none⟩∧b<w0.heap.size∧b<w0.heap.size∧ZJ w0.heap.size w0 x (Ye a1 a2 a3 a4 a5 a6 a7) ∧
   w0.cell? ⟨b,o+i*5,none⟩=some (.int .i64 a1)∧w0.cell? ⟨b,o+i*5+1,none⟩=some (.string (za a2))∧w0.cell? ⟨b,o+i*5+2,none⟩=some (.int .i64 a3)∧w0.cell? ⟨b,o+i*5+3,none⟩=some (.slice a4 a5 a6)∧w0.cell? ⟨b,o+i*5+4,none⟩=some (.int .i64 a7))
  (hone:∀x v q1 t1 w1,x∈l→ZJ w0.heap.size w0 x v→zH w0 r q1 t1 w1→zX r q w q1 w1→Calls Tryz.prog 79 #[v,.pointer (some ⟨bw,0,none⟩),.pointer (some ⟨bd,0,none⟩)] w1 (zr w0 r q1 t1 w1 (f x))) :
  Calls Tryz.prog 83 #[.pointer (some ⟨r,0,none⟩),.slice base l.length cap,.func (.func 79) #[] #[.pointer (some ⟨bw,0,none⟩),.pointer (some ⟨bd,0,none⟩)]] w (zr w0 r q t w (rowO (l.map f) l.length)):=by
 obtain ⟨n,hn⟩:∃n,n=l.length:=⟨_,rfl⟩;rw [←hn] at hc ⊢;have hlen:n≤9223372036854775807:=by unfold maxLen at hm;omega
 obtain ⟨R,hR⟩:∃R,R=rowO (l.map f) n:=⟨_,rfl⟩;rw [←hR];have HR:Hid (R=rowO (l.map f) n):=hR;have HN:Hid (n=l.length):=hn;have HC:=hl
 have HCl:Hid (∀i x,l[i]?=some x→∃b o a1 a2 a3 a4 a5 a6 a7,base=some ⟨b,o,none⟩∧b<w0.heap.size∧b<w0.heap.size∧ZJ w0.heap.size w0 x (Ye a1 a2 a3 a4 a5 a6 a7) ∧
   w0.cell? ⟨b,o+i*5,none⟩=some (.int .i64 a1)∧w0.cell? ⟨b,o+i*5+1,none⟩=some (.string (za a2))∧w0.cell? ⟨b,o+i*5+2,none⟩=some (.int .i64 a3)∧w0.cell? ⟨b,o+i*5+3,none⟩=some (.slice a4 a5 a6)∧w0.cell? ⟨b,o+i*5+4,none⟩=some (.int .i64 a7)):=hl
 have HONE:Hid (∀x v q1 t1 w1,x∈l→ZJ w0.heap.size w0 x v→zH w0 r q1 t1 w1→zX r q w q1 w1→Calls Tryz.prog 79 #[v,.pointer (some ⟨bw,0,none⟩),.pointer (some ⟨bd,0,none⟩)] w1 (zr w0 r q1 t1 w1 (f x))):=hone;have HW:Hid (zH w0 r q t w):=h;have hrl:=h.lt.1;have hql:=h.lt.2;clear HC hl hone h hn hR
 go_enter Tryz.func83,Tryz.ntmps83
 go_wp2_with fail
 go_loopw [10] (fun i wr=>∃(k:Nat) (q1:Option Nat) (s:List UInt8),k≤n∧i=.int .i64 k∧zX r q w q1 wr∧rowO (l.map f) k=some s∧zH w0 r q1 (t++s) wr) (fun i _=>n-(intOf i).toNat)
 case atStart=>exact ⟨0,q,[],Nat.zero_le _,rfl,zX.refl _ _ _,rfl,by rw [List.append_nil];exact HW.out⟩
 case round =>
  obtain ⟨k,q1,s,hk,rfl,hto,hrow,hwr⟩:=hrel
  by_cases hlt:k<n
  ·obtain ⟨x,hx⟩:∃x,l[k]?=some x:=⟨l[k]'(by rw [←HN.out];exact hlt),List.getElem?_eq_getElem (by rw [←HN.out];exact hlt)⟩
   obtain ⟨b,o,a1,a2,a3,a4,a5,a6,a7,rfl,hb1,-,hxx,m0,m1,m2,m3,m4⟩:=HCl.out k x hx;have n0:=(hwr.env.cell (p:=⟨b,o+k*5,none⟩) hb1).trans m0;have n1:=(hwr.env.cell (p:=⟨b,o+k*5+1,none⟩) hb1).trans m1;have n2:=(hwr.env.cell (p:=⟨b,o+k*5+2,none⟩) hb1).trans m2;have n3:=(hwr.env.cell (p:=⟨b,o+k*5+3,none⟩) hb1).trans m3;have n4:=(hwr.env.cell (p:=⟨b,o+k*5+4,none⟩) hb1).trans m4;clear m0 m1 m2 m3 m4;have hlt':(k:Int)<(n:Int):=by omega
   obtain ⟨w2,hw2⟩:∃w2,w2=wr.alloc (Y3 a1 a2 a3 a4 a5 a6 a7):=⟨_,rfl⟩;have p2:w2.heap[wr.heap.size]?=some (.cells #[.int .i64 a1,.string (za a2),.int .i64 a3,.slice a4 a5 a6,.int .i64 a7] 45 (0,0)):=by rw [hw2];exact World.alloc_heap_new wr _
   have hsz2:w2.heap.size=wr.heap.size+1:=by rw [hw2];simp
   have HT2:Hid (zX r q w q1 w2):=show zX _ _ _ _ _ by rw [hw2];exact hto.alloc _
   have HW2:Hid (zH w0 r q1 (t++s) w2):=show zH _ _ _ _ _ by rw [hw2];exact hwr.alloc _
   have hrlt:=hwr.lt.1;have hqlt:=hwr.lt.2
   have cellsE:∀W:World,W.heap[wr.heap.size]?=w2.heap[wr.heap.size]?→W.cell? ⟨wr.heap.size,0,none⟩=some (.int .i64 a1)∧W.cell? ⟨wr.heap.size,1,none⟩=some (.string (za a2))∧W.cell? ⟨wr.heap.size,2,none⟩=some (.int .i64 a3)∧W.cell? ⟨wr.heap.size,3,none⟩=some (.slice a4 a5 a6)∧W.cell? ⟨wr.heap.size,4,none⟩=some (.int .i64 a7):=fun W hW=>by
    rw [p2] at hW;refine ⟨?_,?_,?_,?_,?_⟩ <;> (simp only [World.cell?,hW];rfl)
   have hget:((l.map f)[k]?).getD none=f x:=by rw [List.getElem?_map,hx];rfl
   have HST:Hid (f x=none→R=none):=fun h9=>by rw [HR.out];exact QS _ hlt (by rw [hget,h9])
   have HNX:Hid (∀u,f x=some u→rowO (l.map f) (k+1)=some (s++((if k=0 then [] else [44,32])++u))):=fun u h9=>by
    rw [rowO,hrow,hget,h9];rfl
   have cx:=fun q2 t2 W h1 h2=>HONE.out x _ q2 t2 W (List.mem_of_getElem? hx) hxx h1 h2
   have HCX:Hid (∀q1 t1 w1,zH w0 r q1 t1 w1→zX r q w q1 w1→Calls Tryz.prog 79 #[Ye a1 a2 a3 a4 a5 a6 a7,.pointer (some ⟨bw,0,none⟩),.pointer (some ⟨bd,0,none⟩)] w1 (zr w0 r q1 t1 w1 (f x))):=cx;have HCE:Hid (∀W:World,W.heap[wr.heap.size]?=w2.heap[wr.heap.size]?→W.cell? ⟨wr.heap.size,0,none⟩=some (.int .i64 a1)∧W.cell? ⟨wr.heap.size,1,none⟩=some (.string (za a2))∧W.cell? ⟨wr.heap.size,2,none⟩=some (.int .i64 a3)∧W.cell? ⟨wr.heap.size,3,none⟩=some (.slice a4 a5 a6)∧W.cell? ⟨wr.heap.size,4,none⟩=some (.int .i64 a7)):=cellsE;have hw2':=hw2.symm;clear cx cellsE hget hxx hto hwr hrow HCl HONE HW hw2 p2;generalize f x=X at *;rcases Nat.eq_zero_or_pos k with hk0 | hk0
   ·subst hk0
    rw [Nat.zero_mul,Nat.add_zero] at n0 n1 n2 n3 n4;obtain ⟨c0,c1,c2,c3,c4⟩:=HCE.out w2 rfl;have c:=HCX.out q1 (t++s) w2 HW2.out HT2.out;go_wp2_with fail
    refine c.mono ?_;clear c;rintro e w3 ⟨q3,hto3,hp⟩;cases X with
    | none=>subst hp;obtain rfl:=HST.out rfl;exact ⟨rfl,q3,HT2.out.trans hto3,rfl⟩
    | some u =>
     obtain ⟨rfl,hw3⟩:=hp;have HNXT:Hid (∃(k':Nat) (q':Option Nat) (s':List UInt8),k'=1∧zX r q w q' w3∧rowO (l.map f) k'=some s'∧zH w0 r q' (t++s') w3):=⟨1,q3,_,rfl,HT2.out.trans hto3,HNX.out u rfl,by rw [if_pos trivial,List.nil_append,←List.append_assoc];exact hw3⟩
     clear hto3 hw3 HNX HST HT2 HW2 HCX HCE c0 c1 c2 c3 c4;go_wp2
     obtain ⟨k',q',s',rfl,h1,h2,h3⟩:=HNXT.out;exact ⟨⟨1,q',s',by omega,by go_num,h1,h2,h3⟩,by simp [intOf];omega⟩
   ·have hk1:(0:Int)<(k:Int):=by omega
    obtain ⟨c0,c1,c2,c3,c4⟩:=HCE.out w2 rfl;have cp:=zE w0 r q1 (t++s) [44,32] w2 HW2.out (by simp)
    go_wp2_with fail
    refine cp.mono ?_;clear cp c0 c1 c2 c3 c4;rintro e w3 ⟨q3,hto3,rfl,hw3⟩;have hs3:=hto3.size;have hsame:w3.heap[wr.heap.size]?=w2.heap[wr.heap.size]?:=hto3.block _ (by omega) (by omega) (fun e=>by have:=hqlt _ e;omega)
    obtain ⟨c0,c1,c2,c3,c4⟩:=HCE.out w3 hsame;have HT3:Hid (zX r q w q3 w3):=HT2.out.trans hto3;have c:=HCX.out q3 (t++s++[44,32]) w3 hw3 HT3.out;clear hto3 hw3 hsame;go_wp2_with fail
    refine c.mono ?_;clear c;rintro e w4 ⟨q4,hto4,hp⟩;cases X with
    | none=>subst hp;obtain rfl:=HST.out rfl;exact ⟨rfl,q4,HT3.out.trans hto4,rfl⟩
    | some u =>
     obtain ⟨rfl,hw4⟩:=hp;have HNXT:Hid (∃(k':Nat) (q':Option Nat) (s':List UInt8),k'=k+1∧zX r q w q' w4∧rowO (l.map f) k'=some s'∧zH w0 r q' (t++s') w4):=⟨k+1,q4,_,rfl,HT3.out.trans hto4,HNX.out u rfl,by rw [if_neg (by omega),←List.append_assoc,←List.append_assoc];exact hw4⟩
     clear hto4 hw4 HNX HST HT2 HT3 HW2 HCX HCE c0 c1 c2 c3 c4;go_wp2
     obtain ⟨k',q',s',rfl,h1,h2,h3⟩:=HNXT.out;exact ⟨⟨k+1,q',s',by omega,by go_num,h1,h2,h3⟩,by simp [intOf];omega⟩
  ·have hkn:k=n:=by omega
   have hlt':¬(k:Int)<(n:Int):=by omega
   have HP:Hid (zr w0 r q t w R (.returned (.tuple #[])) wr):=show zr _ _ _ _ _ _ _ _ by
    rw [HR.out,←hkn,hrow];exact ⟨q1,hto,rfl,hwr⟩
   clear hto hwr hrow HCl HONE HW;go_wp2
   exact bodyPost_ret (v:=.tuple #[]) (by simp [results,Tryz.results83,go_sem]) rfl HP.out
def lvK (k:Int) (s:List UInt8):Nat:=if k=7 then levelOf s else if k=6 then 7 else 8
theorem zhD (k:Int) (s:List UInt8):lvK k s≤8:=by
 unfold lvK
 have:=VW s
 split
 ·omega
 ·split <;> omega
theorem Qj (k:Int) (s:List UInt8) (n:Int) (base:Option Addr) (m cap:Nat) (line:Int) (w:World) (ht:ZS w) :
  Calls Tryz.prog 147 #[Ye k s n base m cap line] w fun e w'=>e=.returned (.int .i64 (lvK k s:Int))∧Below w.heap.size w w':=by
 obtain ⟨w1,hw1⟩:∃w1,w1=w.alloc (Y3 k s n base m cap line):=⟨_,rfl⟩;have hb1:Below w.heap.size w w1:=by rw [hw1];exact (Below.refl _ w).alloc (Nat.le_refl _) _
 have p1:w1.heap[w.heap.size]?=some (.cells #[.int .i64 k,.string (za s),.int .i64 n,.slice base m cap,.int .i64 line] 45 (0,0)):=by rw [hw1];exact World.alloc_heap_new w _
 have c0:w1.cell? ⟨w.heap.size,0,none⟩=some (.int .i64 k):=by simp only [World.cell?,p1];rfl
 have c1:w1.cell? ⟨w.heap.size,1,none⟩=some (.string (za s)):=by simp only [World.cell?,p1];rfl
 have cl:=vA s w1 (fun j v hj=>by rw [hw1];exact ze (ht j v hj) _)
 have HB:Hid (Below w.heap.size w w1):=hb1;have hw1':=hw1.symm;clear hb1 p1 hw1 ht
 by_cases h7:k=7
 ·have HL:Hid (lvK k s=levelOf s):=show _=_ by unfold lvK;rw [if_pos h7]
  subst h7
  go_enter Tryz.func147,Tryz.ntmps147
  go_wp2_with fail
  refine cl.mono ?_;rintro e w2 ⟨rfl,hb2⟩;have HB2:Hid (Below w.heap.size w w2):=zi HB.out hb2;clear hb2 cl;go_wp2
  exact bodyPost_ret (v:=.int .i64 (levelOf s:Int)) (by simp [results,Tryz.results147,go_sem]) rfl ⟨by rw [HL.out],HB2.out⟩
 ·have g7:(k==7)=false:=by rw [beq_eq_false_iff_ne];exact h7
  clear cl
  by_cases h6:k=6
  ·subst h6
   go_enter Tryz.func147,Tryz.ntmps147
   go_wp2
   exact bodyPost_ret (v:=.int .i64 7) (by simp [results,Tryz.results147,go_sem]) rfl ⟨rfl,HB.out⟩
  ·have g6:(k==6)=false:=by rw [beq_eq_false_iff_ne];exact h6
   have HL:Hid (lvK k s=8):=show _=_ by unfold lvK;rw [if_neg h7,if_neg h6]
   go_enter Tryz.func147,Tryz.ntmps147
   go_wp2
   exact bodyPost_ret (v:=.int .i64 8) (by simp [results,Tryz.results147,go_sem]) rfl ⟨by rw [HL.out];rfl,HB.out⟩
def Yx (w0:World) (d:Nat):Prop:=∀(x:Ez) (v:Value) (r:Nat) (q:Option Nat) (t:List UInt8) (w:World),ZJ w0.heap.size w0 x v→zH w0 r q t w→Calls Tryz.prog 42 #[.pointer (some ⟨r,0,none⟩),v,.int .i64 (d:Int)] w (zr w0 r q t w (prE d x))
theorem ur (w0:World) (d:Nat) (hX:Yx w0 d) (hl:ZS w0) (x:Ez) (v:Value) (least r:Nat) (q:Option Nat) (t:List UInt8) (w:World) (hx:ZJ w0.heap.size w0 x v) (h:zH w0 r q t w) :
  Calls Tryz.prog 124 #[.pointer (some ⟨r,0,none⟩),v,.int .i64 (least:Int),.int .i64 (d:Int)] w (zr w0 r q t w (kidO x least (prE d x))):=by
 have hx0:=hx;obtain ⟨k,s,n,kids,line,base,cap,b,o,us,hs,hn0,hn1,hbase,hlen,hc,hm,hcell,hfive,hk⟩:=hx;obtain ⟨w1,hw1⟩:∃w1,w1=w.alloc (Y3 k s n base kids.length cap line):=⟨_,rfl⟩;have hb1:Below w.heap.size w w1:=by rw [hw1];exact (Below.refl _ w).alloc (Nat.le_refl _) _
 have p1:w1.heap[w.heap.size]?=some (.cells #[.int .i64 k,.string (za s),.int .i64 n,.slice base kids.length cap,.int .i64 line] 45 (0,0)):=by rw [hw1];exact World.alloc_heap_new w _
 have h1:=h.below hb1;have cl:=Qj k s n base kids.length cap line w1 (fun j v hj=>by rw [h1.env.cell (World.block_lt_of_cell? w0 _ (hl j v hj))];exact hl j v hj)
 have hsz1:w1.heap.size=w.heap.size+1:=by rw [hw1];simp
 have hlk:=zhD k s;have HR:Hid (kidO (.mk k s n kids line) least (prE d (.mk k s n kids line))=if least≤lvK k s then prE d (.mk k s n kids line) else zd (some [40]) (zd (prE d (.mk k s n kids line)) (some [41]))):=rfl
 have HXV:Hid (∀(q:Option Nat) (t:List UInt8) (w:World),zH w0 r q t w→Calls Tryz.prog 42 #[.pointer (some ⟨r,0,none⟩),Ye k s n base kids.length cap line,.int .i64 (d:Int)] w (zr w0 r q t w (prE d (.mk k s n kids line)))):=fun q t w h=>hX _ _ r q t w hx0 h
 have hr:=h.lt.1;have hqlt:=h.lt.2;generalize kidO (.mk k s n kids line) least (prE d (.mk k s n kids line))=R at *;generalize prE d (.mk k s n kids line)=X at *;generalize kids.length=m at *
 have cellsE:∀W:World,W.heap[w.heap.size]?=w1.heap[w.heap.size]?→W.cell? ⟨w.heap.size,0,none⟩=some (.int .i64 k)∧W.cell? ⟨w.heap.size,1,none⟩=some (.string (za s))∧W.cell? ⟨w.heap.size,2,none⟩=some (.int .i64 n)∧W.cell? ⟨w.heap.size,3,none⟩=some (.slice base m cap)∧W.cell? ⟨w.heap.size,4,none⟩=some (.int .i64 line):=fun W hW=>by
  rw [p1] at hW;refine ⟨?_,?_,?_,?_,?_⟩ <;> (simp only [World.cell?,hW];rfl)
 have HCE:Hid (∀W:World,W.heap[w.heap.size]?=w1.heap[w.heap.size]?→W.cell? ⟨w.heap.size,0,none⟩=some (.int .i64 k)∧W.cell? ⟨w.heap.size,1,none⟩=some (.string (za s))∧W.cell? ⟨w.heap.size,2,none⟩=some (.int .i64 n)∧W.cell? ⟨w.heap.size,3,none⟩=some (.slice base m cap)∧W.cell? ⟨w.heap.size,4,none⟩=some (.int .i64 line)):=cellsE;obtain ⟨c0,c1,c2,c3,c4⟩:=cellsE w1 rfl;have HW1:Hid (zH w0 r q t w1):=h1;have HT1:Hid (zX r q w q w1):=zX.below hb1;have hw1':=hw1.symm;clear hw1 p1 hb1 h1 h hx0 cellsE hX hl hbase hlen hc hcell hfive hk;generalize hLV:lvK k s=L at *;clear hLV
 go_enter Tryz.func124,Tryz.ntmps124
 go_wp2_with fail
 refine cl.mono ?_;clear cl;rintro e w2 ⟨rfl,hb2⟩;obtain ⟨c0,c1,c2,c3,c4⟩:=HCE.out w2 (hb2.block _ (by omega))
 have hs2:=hb2.size;have HE2:Hid (w2.heap[w.heap.size]?=w1.heap[w.heap.size]?):=hb2.block _ (by omega)
 have HW2:Hid (zH w0 r q t w2):=HW1.out.below hb2;have HT2:Hid (zX r q w q w2):=HT1.out.trans (zX.below hb2);clear hb2 HW1 HT1;have hR:=HR.out;clear HR
 by_cases hle:least≤L
 ·rw [if_pos hle] at hR
  subst hR;have cx:=HXV.out q t w2 HW2.out;have h9:(least:Int)≤(L:Int):=by omega
  go_wp2_with fail
  refine cx.mono ?_;clear cx;rintro e w3 ⟨q3,hto,hp⟩;have hto':=HT2.out.trans hto;cases R with
  | none=>subst hp;exact ⟨rfl,q3,hto',rfl⟩
  | some u =>
   obtain ⟨rfl,hw⟩:=hp;have HP:Hid (zr w0 r q t w (some u) (.returned (.tuple #[])) w3):=⟨q3,hto',rfl,hw⟩;clear hto hw hto' HT2 HW2 HXV HCE HE2;go_wp2
   exact bodyPost_ret (v:=.tuple #[]) (by simp [results,Tryz.results124,go_sem]) rfl HP.out
 ·rw [if_neg hle] at hR
  subst hR;have cp:=zE w0 r q t [40] w2 HW2.out (by simp)
  have h9:¬ (least:Int)≤(L:Int):=by omega
  go_wp2_with fail
  refine cp.mono ?_;clear cp;rintro e w3 ⟨q3,hto3,rfl,hw3⟩;have HT3:Hid (zX r q w q3 w3):=HT2.out.trans hto3;have hne3:w3.heap[w.heap.size]?=w2.heap[w.heap.size]?:=hto3.block _ (by omega) (by omega) (fun e=>by have:=hqlt _ e;omega)
  have HE3:Hid (w3.heap[w.heap.size]?=w1.heap[w.heap.size]?):=hne3.trans HE2.out;obtain ⟨c0,c1,c2,c3,c4⟩:=HCE.out w3 HE3.out;have cx:=HXV.out q3 (t++[40]) w3 hw3;have hs3:=hto3.size
  have hq3:∀k,q3=some k→k≠w.heap.size:=fun k hk=>by
   rcases HT3.out.row with e | e
   ·have:=hqlt k (e ▸ hk);omega
   ·rcases hto3.row with e2 | e2
    ·have:=hqlt k (e2 ▸ hk);omega
    ·have:=e2 k hk;omega
  clear hto3 hw3 hne3;go_wp2_with fail
  refine cx.mono ?_;clear cx;rintro e w4 ⟨q4,hto4,hp⟩;cases X with
  | none=>subst hp;exact ⟨rfl,zr.seq HT3.out (zr.stop hto4 rfl)⟩
  | some u =>
   obtain ⟨rfl,hw4⟩:=hp;have HT4:Hid (zX r q3 w3 q4 w4):=hto4;have cp:=zE w0 r q4 (t++[40]++u) [41] w4 hw4 (by simp)
   clear hto4 hw4;go_wp2_with fail
   refine cp.mono ?_;clear cp;rintro e w5 hp5;have HP:Hid (zr w0 r q t w (zd (some [40]) (zd (some u) (some [41]))) e w5):=zr.seq HT3.out (zr.seq HT4.out hp5);obtain ⟨-,-,rfl,-⟩:=hp5;clear HT3 HT4 HW2 HT2 HXV HCE HE2 HE3;go_wp2
   exact bodyPost_ret (v:=.tuple #[]) (by simp [results,Tryz.results124,go_sem]) rfl HP.out
structure zu (r:Nat) (q0:Option Nat) (w w1:World) (q:Option Nat) (W:World):Prop where
 unto:zX r q0 w q W
 hr:r<w.heap.size
 block:∀k,w.heap.size≤k→k<w1.heap.size→W.heap[k]?=w1.heap[k]?
 hq:∀k,q=some k→k<w.heap.size∨w1.heap.size≤k
 size:w1.heap.size≤W.heap.size
theorem zu.step {r:Nat} {q0 q q':Option Nat} {w w1 W W':World} (h:zu r q0 w w1 q W) (ht:zX r q W q' W'):zu r q0 w w1 q' W':=by
 refine ⟨h.unto.trans ht,h.hr,fun k h1 h2=>?_,fun k hk=>?_,Nat.le_trans h.size ht.size⟩
 ·refine (ht.block k (Nat.lt_of_lt_of_le h2 h.size) (by have:=h.hr;omega) fun e=>?_).trans (h.block k h1 h2)
  rcases h.hq k e with h9 | h9 <;> omega
 ·rcases ht.row with e | e
  ·exact h.hq k (e ▸ hk)
  ·exact .inr (Nat.le_trans h.size (e k hk))
theorem zu.start {w0:World} {r:Nat} {q:Option Nat} {t:List UInt8} {w w1:World} (h:zH w0 r q t w) (hb:Below w.heap.size w w1):zu r q w w1 q w1 :=
 ⟨zX.below hb,h.lt.1,fun _ _ _=>rfl,fun k hk=>.inl (h.lt.2 k hk),Nat.le_refl _⟩
theorem zK {w:World} {N:Nat} {k:Int} {s:List UInt8} {n:Int} {base:Option Addr} {m cap:Nat} {line:Int} (p:w.heap[N]?=some (Y3 k s n base m cap line)) :
  w.cell? ⟨N,0,none⟩=some (.int .i64 k)∧w.cell? ⟨N,1,none⟩=some (.string (za s))∧w.cell? ⟨N,2,none⟩=some (.int .i64 n)∧w.cell? ⟨N,3,none⟩=some (.slice base m cap)∧w.cell? ⟨N,4,none⟩=some (.int .i64 line):=by
 refine ⟨?_,?_,?_,?_,?_⟩ <;> (simp only [World.cell?,p];rfl)
structure yI (w0:World) (b p:Nat) (a1:Int) (a2:List UInt8) (a3:Int) (a4:Option Addr) (a5 a6:Nat) (a7:Int):Prop where
 lt:b<w0.heap.size
 c0:w0.cell? ⟨b,p,none⟩=some (.int .i64 a1)
 c1:w0.cell? ⟨b,p+1,none⟩=some (.string (za a2))
 c2:w0.cell? ⟨b,p+2,none⟩=some (.int .i64 a3)
 c3:w0.cell? ⟨b,p+3,none⟩=some (.slice a4 a5 a6)
 c4:w0.cell? ⟨b,p+4,none⟩=some (.int .i64 a7)
theorem yI.now {w0 w:World} {b p:Nat} {a1:Int} {a2:List UInt8} {a3:Int} {a4:Option Addr} {a5 a6:Nat} {a7:Int} (h:yI w0 b p a1 a2 a3 a4 a5 a6 a7) (hb:Below w0.heap.size w0 w) :
  w.cell? ⟨b,p,none⟩=some (.int .i64 a1)∧w.cell? ⟨b,p+1,none⟩=some (.string (za a2))∧w.cell? ⟨b,p+2,none⟩=some (.int .i64 a3)∧w.cell? ⟨b,p+3,none⟩=some (.slice a4 a5 a6)∧w.cell? ⟨b,p+4,none⟩=some (.int .i64 a7) :=
 ⟨(hb.cell h.lt).trans h.c0,(hb.cell h.lt).trans h.c1,(hb.cell h.lt).trans h.c2,(hb.cell h.lt).trans h.c3,(hb.cell h.lt).trans h.c4⟩
theorem zhE (w0:World) (d:Nat) (D:Int) (hD:D-1=(d:Int)) (_hD1:1≤D) (hD2:D≤24) (hX:Yx w0 d) (hl:ZS w0) (s:List UInt8) (n:Int) (b o cap r:Nat) (line:Int) (q:Option Nat) (t:List UInt8) (w:World) (hs:s.length≤100000000) (h:zH w0 r q t w) (x0:Ez) (a01:Int) (a02:List UInt8) (a03:Int) (a04:Option Addr) (a05 a06:Nat) (a07:Int) (hx0:ZJ w0.heap.size w0 x0 (Ye a01 a02 a03 a04 a05 a06 a07)) (hk0:yI w0 b (o) a01 a02 a03 a04 a05 a06 a07) :
  Calls Tryz.prog 84 #[.pointer (some ⟨r,0,none⟩),Ye 6 s n (some ⟨b,o,none⟩) 1 cap line,.int .i64 D] w (zr w0 r q t w (zd (some s) (kidO x0 7 (prE d x0)))):=by
 obtain ⟨R,hR⟩:∃R,R=zd (some s) (kidO x0 7 (prE d x0)):=⟨_,rfl⟩;rw [←hR];have HK0:Hid (∀(q:Option Nat) (t:List UInt8) (w:World),zH w0 r q t w→Calls Tryz.prog 124 #[.pointer (some ⟨r,0,none⟩),Ye a01 a02 a03 a04 a05 a06 a07,.int .i64 ((7:Nat):Int),.int .i64 (d:Int)] w (zr w0 r q t w (kidO x0 (7) (prE d x0)))):=fun q t w h=>ur w0 d hX hl x0 _ (7) r q t w hx0 h
 obtain ⟨w1,hw1⟩:∃w1,w1=w.alloc (Y3 6 s n (some ⟨b,o,none⟩) 1 cap line):=⟨_,rfl⟩;have hb1:Below w.heap.size w w1:=by rw [hw1];exact (Below.refl _ w).alloc (Nat.le_refl _) _
 have p1:w1.heap[w.heap.size]?=some (Y3 6 s n (some ⟨b,o,none⟩) 1 cap line):=by rw [hw1];exact World.alloc_heap_new w _
 have hsz1:w1.heap.size=w.heap.size+1:=by rw [hw1];simp
 have hW1:=h.below hb1;have HL1:Hid (zu r q w w1 q w1):=zu.start h hb1;generalize kidO x0 7 (prE d x0)=X0 at *;have HR:Hid (R=zd (some s) X0):=hR;have HW1:Hid (zH w0 r q t w1):=hW1;have HP1:Hid (w1.heap[w.heap.size]?=some (Y3 6 s n (some ⟨b,o,none⟩) 1 cap line)):=p1;have HKD0:Hid (yI w0 b (o) a01 a02 a03 a04 a05 a06 a07):=hk0;have hw1':=hw1.symm;obtain ⟨c0,c1,c2,c3,c4⟩:=zK p1;clear hR hW1 p1 hw1 hb1 h hX hl hx0 hk0
 go_enter Tryz.func84,Tryz.ntmps84
 have cp:=zE w0 r q (t) s w1 HW1.out (by omega)
 go_wp2_with fail
 refine cp.mono ?_;clear cp c0 c1 c2 c3 c4;rintro e w2 ⟨q2,hto2,rfl,hw2⟩;have HL2:Hid (zu r q w w1 q2 w2):=HL1.out.step hto2;have HW2:Hid (zH w0 r q2 (t++s) w2):=hw2;clear hto2 hw2;obtain ⟨c0,c1,c2,c3,c4⟩:=zK ((HL2.out.block _ (Nat.le_refl _) (by omega)).trans HP1.out)
 have cp:=HK0.out q2 (t++s) w2 HW2.out;obtain ⟨k0,k1,k2,k3,k4⟩:=HKD0.out.now HW2.out.env;go_wp2_with fail
 refine cp.mono ?_;clear cp c0 c1 c2 c3 c4 k0 k1 k2 k3 k4;rintro e w3 ⟨q3,hto3,hp3⟩;cases X0 with
 | none=>subst hp3;obtain rfl:R=none:=(by rw [HR.out];rfl);exact ⟨rfl,q3,(HL2.out.step hto3).unto,rfl⟩
 | some u0 =>
 obtain ⟨rfl,hw3⟩:=hp3;have HL3:Hid (zu r q w w1 q3 w3):=HL2.out.step hto3;have HW3:Hid (zH w0 r q3 (t++s++u0) w3):=hw3;clear hto3 hw3;obtain ⟨c0,c1,c2,c3,c4⟩:=zK ((HL3.out.block _ (Nat.le_refl _) (by omega)).trans HP1.out)
 obtain rfl:R=some (s++(u0)):=by rw [HR.out];rfl
 have HP:Hid (zr w0 r q t w (some (s++(u0))) (.returned (.tuple #[])) w3):=⟨q3,HL3.out.unto,rfl,by have:=HW3.out;simpa only [List.append_assoc] using this⟩
 clear HL1 HW1 HL2 HW2 HL3 HW3 c0 c1 c2 c3 c4 HR HP1 HK0 HKD0;go_wp2
 exact bodyPost_ret (v:=.tuple #[]) (by simp [results,Tryz.results84,go_sem]) rfl HP.out
theorem zhF (w0:World) (d:Nat) (D:Int) (hD:D-1=(d:Int)) (_hD1:1≤D) (hD2:D≤24) (hX:Yx w0 d) (hl:ZS w0) (s:List UInt8) (n:Int) (b o cap r:Nat) (line:Int) (q:Option Nat) (t:List UInt8) (w:World) (hs:s.length≤100000000) (h:zH w0 r q t w) (x0:Ez) (a01:Int) (a02:List UInt8) (a03:Int) (a04:Option Addr) (a05 a06:Nat) (a07:Int) (hx0:ZJ w0.heap.size w0 x0 (Ye a01 a02 a03 a04 a05 a06 a07)) (hk0:yI w0 b (o) a01 a02 a03 a04 a05 a06 a07) (x1:Ez) (a11:Int) (a12:List UInt8) (a13:Int) (a14:Option Addr) (a15 a16:Nat) (a17:Int) (hx1:ZJ w0.heap.size w0 x1 (Ye a11 a12 a13 a14 a15 a16 a17)) (hk1:yI w0 b (o+5) a11 a12 a13 a14 a15 a16 a17) :
  Calls Tryz.prog 84 #[.pointer (some ⟨r,0,none⟩),Ye 7 s n (some ⟨b,o,none⟩) 2 cap line,.int .i64 D] w (zr w0 r q t w (zd (kidO x0 (levelOf s) (prE d x0)) (zd (some [32]) (zd (some s) (zd (some [32]) (kidO x1 (levelOf s+1) (prE d x1))))))):=by
 obtain ⟨R,hR⟩:∃R,R=zd (kidO x0 (levelOf s) (prE d x0)) (zd (some [32]) (zd (some s) (zd (some [32]) (kidO x1 (levelOf s+1) (prE d x1))))):=⟨_,rfl⟩;rw [←hR];have HK0:Hid (∀(q:Option Nat) (t:List UInt8) (w:World),zH w0 r q t w→Calls Tryz.prog 124 #[.pointer (some ⟨r,0,none⟩),Ye a01 a02 a03 a04 a05 a06 a07,.int .i64 (((levelOf s):Nat):Int),.int .i64 (d:Int)] w (zr w0 r q t w (kidO x0 ((levelOf s)) (prE d x0)))):=fun q t w h=>ur w0 d hX hl x0 _ ((levelOf s)) r q t w hx0 h
 have HK1:Hid (∀(q:Option Nat) (t:List UInt8) (w:World),zH w0 r q t w→Calls Tryz.prog 124 #[.pointer (some ⟨r,0,none⟩),Ye a11 a12 a13 a14 a15 a16 a17,.int .i64 (((levelOf s+1):Nat):Int),.int .i64 (d:Int)] w (zr w0 r q t w (kidO x1 ((levelOf s+1)) (prE d x1)))):=fun q t w h=>ur w0 d hX hl x1 _ ((levelOf s+1)) r q t w hx1 h
 obtain ⟨w1,hw1⟩:∃w1,w1=w.alloc (Y3 7 s n (some ⟨b,o,none⟩) 2 cap line):=⟨_,rfl⟩;have hb1:Below w.heap.size w w1:=by rw [hw1];exact (Below.refl _ w).alloc (Nat.le_refl _) _
 have p1:w1.heap[w.heap.size]?=some (Y3 7 s n (some ⟨b,o,none⟩) 2 cap line):=by rw [hw1];exact World.alloc_heap_new w _
 have hsz1:w1.heap.size=w.heap.size+1:=by rw [hw1];simp
 have hW1:=h.below hb1;have HL1:Hid (zu r q w w1 q w1):=zu.start h hb1;have cl:=vA s w1 (fun j v hj=>by rw [hW1.env.cell (World.block_lt_of_cell? w0 _ (hl j v hj))];exact hl j v hj)
 have hlev:=VW s;obtain ⟨L,hL⟩:∃L,L=levelOf s:=⟨_,rfl⟩;rw [←hL] at cl hlev hR HK0 HK1;clear hL;generalize kidO x0 L (prE d x0)=X0 at *;generalize kidO x1 (L+1) (prE d x1)=X1 at *;have HR:Hid (R=zd X0 (zd (some [32]) (zd (some s) (zd (some [32]) X1)))):=hR;have HW1:Hid (zH w0 r q t w1):=hW1;have HP1:Hid (w1.heap[w.heap.size]?=some (Y3 7 s n (some ⟨b,o,none⟩) 2 cap line)):=p1;have HKD0:Hid (yI w0 b (o) a01 a02 a03 a04 a05 a06 a07):=hk0;have HKD1:Hid (yI w0 b (o+5) a11 a12 a13 a14 a15 a16 a17):=hk1;have hw1':=hw1.symm;obtain ⟨c0,c1,c2,c3,c4⟩:=zK p1;clear hR hW1 p1 hw1 hb1 h hX hl hx0 hk0 hx1 hk1
 go_enter Tryz.func84,Tryz.ntmps84
 go_wp2_with fail
 refine cl.mono ?_;clear cl c0 c1 c2 c3 c4;rintro e w2 ⟨rfl,hb2⟩;have HL2:Hid (zu r q w w1 q w2):=HL1.out.step (zX.below hb2);have HW2:Hid (zH w0 r q (t) w2):=HW1.out.below hb2;clear hb2;obtain ⟨c0,c1,c2,c3,c4⟩:=zK ((HL2.out.block _ (Nat.le_refl _) (by omega)).trans HP1.out)
 have cp:=HK0.out q (t) w2 HW2.out;obtain ⟨k0,k1,k2,k3,k4⟩:=HKD0.out.now HW2.out.env;go_wp2_with fail
 refine cp.mono ?_;clear cp c0 c1 c2 c3 c4 k0 k1 k2 k3 k4;rintro e w3 ⟨q3,hto3,hp3⟩;cases X0 with
 | none=>subst hp3;obtain rfl:R=none:=(by rw [HR.out];rfl);exact ⟨rfl,q3,(HL2.out.step hto3).unto,rfl⟩
 | some u0 =>
 obtain ⟨rfl,hw3⟩:=hp3;have HL3:Hid (zu r q w w1 q3 w3):=HL2.out.step hto3;have HW3:Hid (zH w0 r q3 (t++u0) w3):=hw3;clear hto3 hw3;obtain ⟨c0,c1,c2,c3,c4⟩:=zK ((HL3.out.block _ (Nat.le_refl _) (by omega)).trans HP1.out)
 have cp:=zE w0 r q3 (t++u0) [32] w3 HW3.out (by simp)
 go_wp2_with fail
 refine cp.mono ?_;clear cp c0 c1 c2 c3 c4;rintro e w4 ⟨q4,hto4,rfl,hw4⟩;have HL4:Hid (zu r q w w1 q4 w4):=HL3.out.step hto4;have HW4:Hid (zH w0 r q4 (t++u0++[32]) w4):=hw4;clear hto4 hw4;obtain ⟨c0,c1,c2,c3,c4⟩:=zK ((HL4.out.block _ (Nat.le_refl _) (by omega)).trans HP1.out)
 have cp:=zE w0 r q4 (t++u0++[32]) s w4 HW4.out (by omega)
 go_wp2_with fail
 refine cp.mono ?_;clear cp c0 c1 c2 c3 c4;rintro e w5 ⟨q5,hto5,rfl,hw5⟩;have HL5:Hid (zu r q w w1 q5 w5):=HL4.out.step hto5;have HW5:Hid (zH w0 r q5 (t++u0++[32]++s) w5):=hw5;clear hto5 hw5;obtain ⟨c0,c1,c2,c3,c4⟩:=zK ((HL5.out.block _ (Nat.le_refl _) (by omega)).trans HP1.out)
 have cp:=zE w0 r q5 (t++u0++[32]++s) [32] w5 HW5.out (by simp)
 go_wp2_with fail
 refine cp.mono ?_;clear cp c0 c1 c2 c3 c4;rintro e w6 ⟨q6,hto6,rfl,hw6⟩;have HL6:Hid (zu r q w w1 q6 w6):=HL5.out.step hto6;have HW6:Hid (zH w0 r q6 (t++u0++[32]++s++[32]) w6):=hw6;clear hto6 hw6;obtain ⟨c0,c1,c2,c3,c4⟩:=zK ((HL6.out.block _ (Nat.le_refl _) (by omega)).trans HP1.out)
 have cp:=HK1.out q6 (t++u0++[32]++s++[32]) w6 HW6.out;obtain ⟨k0,k1,k2,k3,k4⟩:=HKD1.out.now HW6.out.env;go_wp2_with fail
 refine cp.mono ?_;clear cp c0 c1 c2 c3 c4 k0 k1 k2 k3 k4;rintro e w7 ⟨q7,hto7,hp7⟩;cases X1 with
 | none=>subst hp7;obtain rfl:R=none:=(by rw [HR.out];rfl);exact ⟨rfl,q7,(HL6.out.step hto7).unto,rfl⟩
 | some u1 =>
 obtain ⟨rfl,hw7⟩:=hp7;have HL7:Hid (zu r q w w1 q7 w7):=HL6.out.step hto7;have HW7:Hid (zH w0 r q7 (t++u0++[32]++s++[32]++u1) w7):=hw7;clear hto7 hw7;obtain ⟨c0,c1,c2,c3,c4⟩:=zK ((HL7.out.block _ (Nat.le_refl _) (by omega)).trans HP1.out)
 obtain rfl:R=some (u0++([32]++(s++([32]++(u1))))):=by rw [HR.out];rfl
 have HP:Hid (zr w0 r q t w (some (u0++([32]++(s++([32]++(u1)))))) (.returned (.tuple #[])) w7):=⟨q7,HL7.out.unto,rfl,by have:=HW7.out;simpa only [List.append_assoc] using this⟩
 clear HL1 HW1 HL2 HW2 HL3 HW3 HL4 HW4 HL5 HW5 HL6 HW6 HL7 HW7 c0 c1 c2 c3 c4 HR HP1 HK0 HK1 HKD0 HKD1;go_wp2
 exact bodyPost_ret (v:=.tuple #[]) (by simp [results,Tryz.results84,go_sem]) rfl HP.out
theorem zhG (w0:World) (d:Nat) (D:Int) (hD:D-1=(d:Int)) (_hD1:1≤D) (hD2:D≤24) (hX:Yx w0 d) (hl:ZS w0) (s:List UInt8) (n:Int) (b o cap r:Nat) (line:Int) (q:Option Nat) (t:List UInt8) (w:World) (h:zH w0 r q t w) (x0:Ez) (a01:Int) (a02:List UInt8) (a03:Int) (a04:Option Addr) (a05 a06:Nat) (a07:Int) (hx0:ZJ w0.heap.size w0 x0 (Ye a01 a02 a03 a04 a05 a06 a07)) (hk0:yI w0 b (o) a01 a02 a03 a04 a05 a06 a07) (x1:Ez) (a11:Int) (a12:List UInt8) (a13:Int) (a14:Option Addr) (a15 a16:Nat) (a17:Int) (hx1:ZJ w0.heap.size w0 x1 (Ye a11 a12 a13 a14 a15 a16 a17)) (hk1:yI w0 b (o+5) a11 a12 a13 a14 a15 a16 a17) :
  Calls Tryz.prog 84 #[.pointer (some ⟨r,0,none⟩),Ye 8 s n (some ⟨b,o,none⟩) 2 cap line,.int .i64 D] w (zr w0 r q t w (zd (kidO x0 8 (prE d x0)) (zd (some [91]) (zd (prE d x1) (some [93]))))):=by
 obtain ⟨R,hR⟩:∃R,R=zd (kidO x0 8 (prE d x0)) (zd (some [91]) (zd (prE d x1) (some [93]))):=⟨_,rfl⟩;rw [←hR];have HK0:Hid (∀(q:Option Nat) (t:List UInt8) (w:World),zH w0 r q t w→Calls Tryz.prog 124 #[.pointer (some ⟨r,0,none⟩),Ye a01 a02 a03 a04 a05 a06 a07,.int .i64 ((8:Nat):Int),.int .i64 (d:Int)] w (zr w0 r q t w (kidO x0 (8) (prE d x0)))):=fun q t w h=>ur w0 d hX hl x0 _ (8) r q t w hx0 h
 have HK1:Hid (∀(q:Option Nat) (t:List UInt8) (w:World),zH w0 r q t w→Calls Tryz.prog 42 #[.pointer (some ⟨r,0,none⟩),Ye a11 a12 a13 a14 a15 a16 a17,.int .i64 (d:Int)] w (zr w0 r q t w (prE d x1))):=fun q t w h=>hX x1 _ r q t w hx1 h
 obtain ⟨w1,hw1⟩:∃w1,w1=w.alloc (Y3 8 s n (some ⟨b,o,none⟩) 2 cap line):=⟨_,rfl⟩;have hb1:Below w.heap.size w w1:=by rw [hw1];exact (Below.refl _ w).alloc (Nat.le_refl _) _
 have p1:w1.heap[w.heap.size]?=some (Y3 8 s n (some ⟨b,o,none⟩) 2 cap line):=by rw [hw1];exact World.alloc_heap_new w _
 have hsz1:w1.heap.size=w.heap.size+1:=by rw [hw1];simp
 have hW1:=h.below hb1;have HL1:Hid (zu r q w w1 q w1):=zu.start h hb1;generalize kidO x0 8 (prE d x0)=X0 at *;generalize prE d x1=X1 at *;have HR:Hid (R=zd X0 (zd (some [91]) (zd X1 (some [93])))):=hR;have HW1:Hid (zH w0 r q t w1):=hW1;have HP1:Hid (w1.heap[w.heap.size]?=some (Y3 8 s n (some ⟨b,o,none⟩) 2 cap line)):=p1;have HKD0:Hid (yI w0 b (o) a01 a02 a03 a04 a05 a06 a07):=hk0;have HKD1:Hid (yI w0 b (o+5) a11 a12 a13 a14 a15 a16 a17):=hk1;have hw1':=hw1.symm;obtain ⟨c0,c1,c2,c3,c4⟩:=zK p1;clear hR hW1 p1 hw1 hb1 h hX hl hx0 hk0 hx1 hk1
 go_enter Tryz.func84,Tryz.ntmps84
 have cp:=HK0.out q (t) w1 HW1.out;obtain ⟨k0,k1,k2,k3,k4⟩:=HKD0.out.now HW1.out.env;go_wp2_with fail
 refine cp.mono ?_;clear cp c0 c1 c2 c3 c4 k0 k1 k2 k3 k4;rintro e w2 ⟨q2,hto2,hp2⟩;cases X0 with
 | none=>subst hp2;obtain rfl:R=none:=(by rw [HR.out];rfl);exact ⟨rfl,q2,(HL1.out.step hto2).unto,rfl⟩
 | some u0 =>
 obtain ⟨rfl,hw2⟩:=hp2;have HL2:Hid (zu r q w w1 q2 w2):=HL1.out.step hto2;have HW2:Hid (zH w0 r q2 (t++u0) w2):=hw2;clear hto2 hw2;obtain ⟨c0,c1,c2,c3,c4⟩:=zK ((HL2.out.block _ (Nat.le_refl _) (by omega)).trans HP1.out)
 have cp:=zE w0 r q2 (t++u0) [91] w2 HW2.out (by simp)
 go_wp2_with fail
 refine cp.mono ?_;clear cp c0 c1 c2 c3 c4;rintro e w3 ⟨q3,hto3,rfl,hw3⟩;have HL3:Hid (zu r q w w1 q3 w3):=HL2.out.step hto3;have HW3:Hid (zH w0 r q3 (t++u0++[91]) w3):=hw3;clear hto3 hw3;obtain ⟨c0,c1,c2,c3,c4⟩:=zK ((HL3.out.block _ (Nat.le_refl _) (by omega)).trans HP1.out)
 have cp:=HK1.out q3 (t++u0++[91]) w3 HW3.out;obtain ⟨k0,k1,k2,k3,k4⟩:=HKD1.out.now HW3.out.env;go_wp2_with fail
 refine cp.mono ?_;clear cp c0 c1 c2 c3 c4 k0 k1 k2 k3 k4;rintro e w4 ⟨q4,hto4,hp4⟩;cases X1 with
 | none=>subst hp4;obtain rfl:R=none:=(by rw [HR.out];rfl);exact ⟨rfl,q4,(HL3.out.step hto4).unto,rfl⟩
 | some u1 =>
 obtain ⟨rfl,hw4⟩:=hp4;have HL4:Hid (zu r q w w1 q4 w4):=HL3.out.step hto4;have HW4:Hid (zH w0 r q4 (t++u0++[91]++u1) w4):=hw4;clear hto4 hw4;obtain ⟨c0,c1,c2,c3,c4⟩:=zK ((HL4.out.block _ (Nat.le_refl _) (by omega)).trans HP1.out)
 have cp:=zE w0 r q4 (t++u0++[91]++u1) [93] w4 HW4.out (by simp)
 go_wp2_with fail
 refine cp.mono ?_;clear cp c0 c1 c2 c3 c4;rintro e w5 ⟨q5,hto5,rfl,hw5⟩;have HL5:Hid (zu r q w w1 q5 w5):=HL4.out.step hto5;have HW5:Hid (zH w0 r q5 (t++u0++[91]++u1++[93]) w5):=hw5;clear hto5 hw5;obtain ⟨c0,c1,c2,c3,c4⟩:=zK ((HL5.out.block _ (Nat.le_refl _) (by omega)).trans HP1.out)
 obtain rfl:R=some (u0++([91]++(u1++([93])))):=by rw [HR.out];rfl
 have HP:Hid (zr w0 r q t w (some (u0++([91]++(u1++([93]))))) (.returned (.tuple #[])) w5):=⟨q5,HL5.out.unto,rfl,by have:=HW5.out;simpa only [List.append_assoc] using this⟩
 clear HL1 HW1 HL2 HW2 HL3 HW3 HL4 HW4 HL5 HW5 c0 c1 c2 c3 c4 HR HP1 HK0 HK1 HKD0 HKD1;go_wp2
 exact bodyPost_ret (v:=.tuple #[]) (by simp [results,Tryz.results84,go_sem]) rfl HP.out
theorem zhH (w0:World) (d:Nat) (D:Int) (hD:D-1=(d:Int)) (_hD1:1≤D) (hD2:D≤24) (hX:Yx w0 d) (hT:ZV w0) (hl:ZS w0) (s:List UInt8) (n:Int) (b o cap r:Nat) (line:Int) (q:Option Nat) (t:List UInt8) (w:World) (hs:s.length≤100000000) (h:zH w0 r q t w) (x0:Ez) (a01:Int) (a02:List UInt8) (a03:Int) (a04:Option Addr) (a05 a06:Nat) (a07:Int) (hx0:ZJ w0.heap.size w0 x0 (Ye a01 a02 a03 a04 a05 a06 a07)) (hk0:yI w0 b (o) a01 a02 a03 a04 a05 a06 a07) :
  Calls Tryz.prog 84 #[.pointer (some ⟨r,0,none⟩),Ye 9 s n (some ⟨b,o,none⟩) 1 cap line,.int .i64 D] w (zr w0 r q t w (zd (kidO x0 8 (prE d x0)) (zd (some [46]) (tokO 1 0 s)))):=by
 obtain ⟨R,hR⟩:∃R,R=zd (kidO x0 8 (prE d x0)) (zd (some [46]) (tokO 1 0 s)):=⟨_,rfl⟩;rw [←hR];have HK0:Hid (∀(q:Option Nat) (t:List UInt8) (w:World),zH w0 r q t w→Calls Tryz.prog 124 #[.pointer (some ⟨r,0,none⟩),Ye a01 a02 a03 a04 a05 a06 a07,.int .i64 ((8:Nat):Int),.int .i64 (d:Int)] w (zr w0 r q t w (kidO x0 (8) (prE d x0)))):=fun q t w h=>ur w0 d hX hl x0 _ (8) r q t w hx0 h
 have HK1:Hid (∀(q:Option Nat) (t:List UInt8) (w:World),zH w0 r q t w→Calls Tryz.prog 82 #[.pointer (some ⟨r,0,none⟩),.string (za s)] w (zr w0 r q t w (tokO 1 0 s))):=fun q t w h=>Yb w0 r q t s w hT h hs
 obtain ⟨w1,hw1⟩:∃w1,w1=w.alloc (Y3 9 s n (some ⟨b,o,none⟩) 1 cap line):=⟨_,rfl⟩;have hb1:Below w.heap.size w w1:=by rw [hw1];exact (Below.refl _ w).alloc (Nat.le_refl _) _
 have p1:w1.heap[w.heap.size]?=some (Y3 9 s n (some ⟨b,o,none⟩) 1 cap line):=by rw [hw1];exact World.alloc_heap_new w _
 have hsz1:w1.heap.size=w.heap.size+1:=by rw [hw1];simp
 have hW1:=h.below hb1;have HL1:Hid (zu r q w w1 q w1):=zu.start h hb1;generalize kidO x0 8 (prE d x0)=X0 at *;generalize tokO 1 0 s=X1 at *;have HR:Hid (R=zd X0 (zd (some [46]) X1)):=hR;have HW1:Hid (zH w0 r q t w1):=hW1;have HP1:Hid (w1.heap[w.heap.size]?=some (Y3 9 s n (some ⟨b,o,none⟩) 1 cap line)):=p1;have HKD0:Hid (yI w0 b (o) a01 a02 a03 a04 a05 a06 a07):=hk0;have hw1':=hw1.symm;obtain ⟨c0,c1,c2,c3,c4⟩:=zK p1;clear hR hW1 p1 hw1 hb1 h hX hl hT hx0 hk0
 go_enter Tryz.func84,Tryz.ntmps84
 have cp:=HK0.out q (t) w1 HW1.out;obtain ⟨k0,k1,k2,k3,k4⟩:=HKD0.out.now HW1.out.env;go_wp2_with fail
 refine cp.mono ?_;clear cp c0 c1 c2 c3 c4 k0 k1 k2 k3 k4;rintro e w2 ⟨q2,hto2,hp2⟩;cases X0 with
 | none=>subst hp2;obtain rfl:R=none:=(by rw [HR.out];rfl);exact ⟨rfl,q2,(HL1.out.step hto2).unto,rfl⟩
 | some u0 =>
 obtain ⟨rfl,hw2⟩:=hp2;have HL2:Hid (zu r q w w1 q2 w2):=HL1.out.step hto2;have HW2:Hid (zH w0 r q2 (t++u0) w2):=hw2;clear hto2 hw2;obtain ⟨c0,c1,c2,c3,c4⟩:=zK ((HL2.out.block _ (Nat.le_refl _) (by omega)).trans HP1.out)
 have cp:=zE w0 r q2 (t++u0) [46] w2 HW2.out (by simp)
 go_wp2_with fail
 refine cp.mono ?_;clear cp c0 c1 c2 c3 c4;rintro e w3 ⟨q3,hto3,rfl,hw3⟩;have HL3:Hid (zu r q w w1 q3 w3):=HL2.out.step hto3;have HW3:Hid (zH w0 r q3 (t++u0++[46]) w3):=hw3;clear hto3 hw3;obtain ⟨c0,c1,c2,c3,c4⟩:=zK ((HL3.out.block _ (Nat.le_refl _) (by omega)).trans HP1.out)
 have cp:=HK1.out q3 (t++u0++[46]) w3 HW3.out;go_wp2_with fail
 refine cp.mono ?_;clear cp c0 c1 c2 c3 c4;rintro e w4 ⟨q4,hto4,hp4⟩;cases X1 with
 | none=>subst hp4;obtain rfl:R=none:=(by rw [HR.out];rfl);exact ⟨rfl,q4,(HL3.out.step hto4).unto,rfl⟩
 | some u1 =>
 obtain ⟨rfl,hw4⟩:=hp4;have HL4:Hid (zu r q w w1 q4 w4):=HL3.out.step hto4;have HW4:Hid (zH w0 r q4 (t++u0++[46]++u1) w4):=hw4;clear hto4 hw4;obtain ⟨c0,c1,c2,c3,c4⟩:=zK ((HL4.out.block _ (Nat.le_refl _) (by omega)).trans HP1.out)
 obtain rfl:R=some (u0++([46]++(u1))):=by rw [HR.out];rfl
 have HP:Hid (zr w0 r q t w (some (u0++([46]++(u1)))) (.returned (.tuple #[])) w4):=⟨q4,HL4.out.unto,rfl,by have:=HW4.out;simpa only [List.append_assoc] using this⟩
 clear HL1 HW1 HL2 HW2 HL3 HW3 HL4 HW4 c0 c1 c2 c3 c4 HR HP1 HK0 HK1 HKD0;go_wp2
 exact bodyPost_ret (v:=.tuple #[]) (by simp [results,Tryz.results84,go_sem]) rfl HP.out
end Go.Proofs.YtpejpbbdgblbeaaGreatDoor
