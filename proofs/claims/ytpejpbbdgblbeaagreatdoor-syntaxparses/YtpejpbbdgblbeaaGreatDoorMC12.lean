import Derived.Test.YtpejpbbdgblbeaaGreatDoorMC9
import Derived.Test.YtpejpbbdgblbeaaGreatDoorMC10
import Derived.Test.YtpejpbbdgblbeaaGreatDoorSWExpr
import Derived.Test.YtpejpbbdgblbeaaGreatDoorMC13
namespace Go.Proofs.YtpejpbbdgblbeaaGreatDoor
open Go.RowKit Go.Shelf
set_option maxHeartbeats 16000000
set_option maxRecDepth 100000
def parO (p:List UInt8 × List UInt8):Option (List UInt8):=zd (tokO 1 0 p.1) (zd (some [58,32]) (typeO p.2))
theorem zcQ (w0:World) (r:Nat) (q:Option Nat) (t s u:List UInt8) (w:World) (hT:ZV w0) (h:zH w0 r q t w) (hs:s.length≤100000000) (hu:u.length≤100000000) :
  Calls Tryz.prog 110 #[.pointer (some ⟨r,0,none⟩),.agg #[.string (za s),.string (za u)]] w (zr w0 r q t w (parO (s,u))):=by
 obtain ⟨R,hR⟩:∃R,R=parO (s,u):=⟨_,rfl⟩;rw [←hR];obtain ⟨w1,hw1⟩:∃w1,w1=w.alloc (.cells #[.string (za s),.string (za u)] 117):=⟨_,rfl⟩;have hb1:Below w.heap.size w w1:=by rw [hw1];exact (Below.refl _ w).alloc (Nat.le_refl _) _
 have p1:w1.heap[w.heap.size]?=some (.cells #[.string (za s),.string (za u)] 117 (0,0)):=by rw [hw1];exact World.alloc_heap_new w _
 have hsz1:w1.heap.size=w.heap.size+1:=by rw [hw1];simp
 have hW1:=h.below hb1;have HL1:Hid (zu r q w w1 q w1):=zu.start h hb1
 have cells:∀W:World,W.heap[w.heap.size]?=w1.heap[w.heap.size]?→W.cell? ⟨w.heap.size,0,none⟩=some (.string (za s))∧W.cell? ⟨w.heap.size,1,none⟩=some (.string (za u)):=fun W hW=>by
  rw [p1] at hW;refine ⟨?_,?_⟩ <;> (simp only [World.cell?,hW];rfl)
 have HC:Hid (∀W:World,W.heap[w.heap.size]?=w1.heap[w.heap.size]?→W.cell? ⟨w.heap.size,0,none⟩=some (.string (za s))∧W.cell? ⟨w.heap.size,1,none⟩=some (.string (za u))):=cells;have HTT:Hid (ZV w0):=hT;obtain ⟨c0,c1⟩:=cells w1 rfl;have cn:=Yb w0 r q t s w1 hT hW1 hs;have hR2:R=zd (tokO 1 0 s) (zd (some [58,32]) (typeO u)):=hR;have HR:Hid (R=zd (tokO 1 0 s) (zd (some [58,32]) (typeO u))):=hR2;have hw1':=hw1.symm;clear hw1 p1 hb1 h hW1 cells hT hR hR2;generalize tokO 1 0 s=X at *
 go_enter Tryz.func110,Tryz.ntmps110
 go_wp2_with fail
 refine cn.mono ?_;clear cn c0 c1;rintro e w2 ⟨q2,hto2,hp2⟩;have HL2:Hid (zu r q w w1 q2 w2):=HL1.out.step hto2;clear hto2;cases X with
 | none=>subst hp2;obtain rfl:R=none:=HR.out;exact ⟨rfl,q2,HL2.out.unto,rfl⟩
 | some a =>
  obtain ⟨rfl,hw2⟩:=hp2;have cp:=zE w0 r q2 (t++a) [58,32] w2 hw2 (by simp)
  clear hw2;go_wp2_with fail
  refine cp.mono ?_;clear cp;rintro e w3 ⟨q3,hto3,rfl,hw3⟩;have HL3:Hid (zu r q w w1 q3 w3):=HL2.out.step hto3;obtain ⟨c0,c1⟩:=HC.out w3 (HL3.out.block _ (Nat.le_refl _) (by omega))
  have ct:=QQ w0 r q3 (t++a++[58,32]) u w3 HTT.out hw3 hu;clear hto3 hw3;generalize typeO u=Y at *;go_wp2_with fail
  refine ct.mono ?_;clear ct c0 c1;rintro e w4 ⟨q4,hto4,hp4⟩;have HL4:Hid (zu r q w w1 q4 w4):=HL3.out.step hto4;clear hto4;cases Y with
  | none=>subst hp4;obtain rfl:R=none:=HR.out;exact ⟨rfl,q4,HL4.out.unto,rfl⟩
  | some b =>
   obtain ⟨rfl,hw4⟩:=hp4;obtain rfl:R=some (a++([58,32]++b)):=HR.out;have HP:Hid (zr w0 r q t w (some (a++([58,32]++b))) (.returned (.tuple #[])) w4):=⟨q4,HL4.out.unto,rfl,by simpa only [List.append_assoc] using hw4⟩
   clear hw4 HL1 HL2 HL3 HL4 HC HR HTT;go_wp2
   exact bodyPost_ret (v:=.tuple #[]) (by simp [results,Tryz.results110,go_sem]) rfl HP.out
theorem vX (w0:World) (l:List (List UInt8 × List UInt8)) (base:Option Addr) (cap r:Nat) (q:Option Nat) (t:List UInt8) (w:World) (h:zH w0 r q t w) (hc:l.length≤cap) (hm:cap≤maxLen)
  (hl:∀i x,l[i]?=some x→∃b o,base=some ⟨b,o,none⟩∧b<w0.heap.size∧x.1.length≤100000000∧x.2.length≤100000000∧w0.cell? ⟨b,o+i*2,none⟩=some (.string (za x.1))∧w0.cell? ⟨b,o+i*2+1,none⟩=some (.string (za x.2)))
  (hT:ZV w0) :
  Calls Tryz.prog 109 #[.pointer (some ⟨r,0,none⟩),.slice base l.length cap,.func (.func 110) #[.pointer (some ⟨r,0,none⟩)] #[]] w (zr w0 r q t w (rowO (l.map parO) l.length)):=by
 obtain ⟨n,hn⟩:∃n,n=l.length:=⟨_,rfl⟩;rw [←hn] at hc ⊢;have hlen:n≤9223372036854775807:=by unfold maxLen at hm;omega
 obtain ⟨R,hR⟩:∃R,R=rowO (l.map parO) n:=⟨_,rfl⟩;rw [←hR];have HR:Hid (R=rowO (l.map parO) n):=hR;have HN:Hid (n=l.length):=hn;have HC:=hl;have HCl:Hid (∀i x,l[i]?=some x→∃b o,base=some ⟨b,o,none⟩∧b<w0.heap.size∧x.1.length≤100000000∧x.2.length≤100000000∧w0.cell? ⟨b,o+i*2,none⟩=some (.string (za x.1))∧w0.cell? ⟨b,o+i*2+1,none⟩=some (.string (za x.2))):=hl;have HTT:Hid (ZV w0):=hT;have HW:Hid (zH w0 r q t w):=h;have hrl:=h.lt.1;have hql:=h.lt.2;clear HC hl hT h hn hR
 go_enter Tryz.func109,Tryz.ntmps109
 go_wp2_with fail
 go_loopw [10] (fun i wr=>∃(k:Nat) (q1:Option Nat) (s:List UInt8),k≤n∧i=.int .i64 k∧zX r q w q1 wr∧rowO (l.map parO) k=some s∧zH w0 r q1 (t++s) wr) (fun i _=>n-(intOf i).toNat)
 case atStart=>exact ⟨0,q,[],Nat.zero_le _,rfl,zX.refl _ _ _,rfl,by rw [List.append_nil];exact HW.out⟩
 case round =>
  obtain ⟨k,q1,s,hk,rfl,hto,hrow,hwr⟩:=hrel
  by_cases hlt:k<n
  ·obtain ⟨x,hx⟩:∃x,l[k]?=some x:=⟨l[k]'(by rw [←HN.out];exact hlt),List.getElem?_eq_getElem (by rw [←HN.out];exact hlt)⟩
   obtain ⟨b,o,rfl,hb1,hx1,hx2,m0,m1⟩:=HCl.out k x hx;have n0:=(hwr.env.cell (p:=⟨b,o+k*2,none⟩) hb1).trans m0;have n1:=(hwr.env.cell (p:=⟨b,o+k*2+1,none⟩) hb1).trans m1;clear m0 m1;have hlt':(k:Int)<(n:Int):=by omega
   obtain ⟨w2,hw2⟩:∃w2,w2=wr.alloc (.cells #[.string (za x.1),.string (za x.2)] 117):=⟨_,rfl⟩;have p2:w2.heap[wr.heap.size]?=some (.cells #[.string (za x.1),.string (za x.2)] 117 (0,0)):=by rw [hw2];exact World.alloc_heap_new wr _
   have hsz2:w2.heap.size=wr.heap.size+1:=by rw [hw2];simp
   have HT2:Hid (zX r q w q1 w2):=show zX _ _ _ _ _ by rw [hw2];exact hto.alloc _
   have HW2:Hid (zH w0 r q1 (t++s) w2):=show zH _ _ _ _ _ by rw [hw2];exact hwr.alloc _
   have hrlt:=hwr.lt.1;have hqlt:=hwr.lt.2
   have cellsE:∀W:World,W.heap[wr.heap.size]?=w2.heap[wr.heap.size]?→W.cell? ⟨wr.heap.size,0,none⟩=some (.string (za x.1))∧W.cell? ⟨wr.heap.size,1,none⟩=some (.string (za x.2)):=fun W hW=>by
    rw [p2] at hW;refine ⟨?_,?_⟩ <;> (simp only [World.cell?,hW];rfl)
   have hget:((l.map parO)[k]?).getD none=parO x:=by rw [List.getElem?_map,hx];rfl
   have HST:Hid (parO x=none→R=none):=fun h9=>by rw [HR.out];exact QS _ hlt (by rw [hget,h9])
   have HNX:Hid (∀u,parO x=some u→rowO (l.map parO) (k+1)=some (s++((if k=0 then [] else [44,32])++u))):=fun u h9=>by
    rw [rowO,hrow,hget,h9];rfl
   have HCX:Hid (∀q1 t1 w1,zH w0 r q1 t1 w1→zX r q w q1 w1→Calls Tryz.prog 110 #[.pointer (some ⟨r,0,none⟩),.agg #[.string (za x.1),.string (za x.2)]] w1 (zr w0 r q1 t1 w1 (parO x))):=fun q1 t1 w1 h1 _=>zcQ w0 r q1 t1 x.1 x.2 w1 HTT.out h1 hx1 hx2
   have HCE:Hid (∀W:World,W.heap[wr.heap.size]?=w2.heap[wr.heap.size]?→W.cell? ⟨wr.heap.size,0,none⟩=some (.string (za x.1))∧W.cell? ⟨wr.heap.size,1,none⟩=some (.string (za x.2))):=cellsE;have hw2':=hw2.symm;clear cellsE hget hto hwr hrow HCl HTT HW hw2 p2 hx1 hx2;generalize parO x=X at *;obtain ⟨xa,xb⟩:=x;simp only at *;rcases Nat.eq_zero_or_pos k with hk0 | hk0
   ·subst hk0
    rw [Nat.zero_mul,Nat.add_zero] at n0 n1;obtain ⟨c0,c1⟩:=HCE.out w2 rfl;have c:=HCX.out q1 (t++s) w2 HW2.out HT2.out;go_wp2_with fail
    refine c.mono ?_;clear c;rintro e w3 ⟨q3,hto3,hp⟩;cases X with
    | none=>subst hp;obtain rfl:=HST.out rfl;exact ⟨rfl,q3,HT2.out.trans hto3,rfl⟩
    | some u =>
     obtain ⟨rfl,hw3⟩:=hp;have HNXT:Hid (∃(k':Nat) (q':Option Nat) (s':List UInt8),k'=1∧zX r q w q' w3∧rowO (l.map parO) k'=some s'∧zH w0 r q' (t++s') w3):=⟨1,q3,_,rfl,HT2.out.trans hto3,HNX.out u rfl,by rw [if_pos trivial,List.nil_append,←List.append_assoc];exact hw3⟩
     clear hto3 hw3 HNX HST HT2 HW2 HCX HCE c0 c1;go_wp2
     obtain ⟨k',q',s',rfl,h1,h2,h3⟩:=HNXT.out;exact ⟨⟨1,q',s',by omega,by go_num,h1,h2,h3⟩,by simp [intOf];omega⟩
   ·have hk1:(0:Int)<(k:Int):=by omega
    obtain ⟨c0,c1⟩:=HCE.out w2 rfl;have cp:=zE w0 r q1 (t++s) [44,32] w2 HW2.out (by simp)
    go_wp2_with fail
    refine cp.mono ?_;clear cp c0 c1;rintro e w3 ⟨q3,hto3,rfl,hw3⟩;have hs3:=hto3.size;have hsame:w3.heap[wr.heap.size]?=w2.heap[wr.heap.size]?:=hto3.block _ (by omega) (by omega) (fun e=>by have:=hqlt _ e;omega)
    obtain ⟨c0,c1⟩:=HCE.out w3 hsame;have HT3:Hid (zX r q w q3 w3):=HT2.out.trans hto3;have c:=HCX.out q3 (t++s++[44,32]) w3 hw3 HT3.out;clear hto3 hw3 hsame;go_wp2_with fail
    refine c.mono ?_;clear c;rintro e w4 ⟨q4,hto4,hp⟩;cases X with
    | none=>subst hp;obtain rfl:=HST.out rfl;exact ⟨rfl,q4,HT3.out.trans hto4,rfl⟩
    | some u =>
     obtain ⟨rfl,hw4⟩:=hp;have HNXT:Hid (∃(k':Nat) (q':Option Nat) (s':List UInt8),k'=k+1∧zX r q w q' w4∧rowO (l.map parO) k'=some s'∧zH w0 r q' (t++s') w4):=⟨k+1,q4,_,rfl,HT3.out.trans hto4,HNX.out u rfl,by rw [if_neg (by omega),←List.append_assoc,←List.append_assoc];exact hw4⟩
     clear hto4 hw4 HNX HST HT2 HT3 HW2 HCX HCE c0 c1;go_wp2
     obtain ⟨k',q',s',rfl,h1,h2,h3⟩:=HNXT.out;exact ⟨⟨k+1,q',s',by omega,by go_num,h1,h2,h3⟩,by simp [intOf];omega⟩
  ·have hkn:k=n:=by omega
   have hlt':¬(k:Int)<(n:Int):=by omega
   have HP:Hid (zr w0 r q t w R (.returned (.tuple #[])) wr):=show zr _ _ _ _ _ _ _ _ by
    rw [HR.out,←hkn,hrow];exact ⟨q1,hto,rfl,hwr⟩
   clear hto hwr hrow HCl HTT HW;go_wp2
   exact bodyPost_ret (v:=.tuple #[]) (by simp [results,Tryz.results109,go_sem]) rfl HP.out
def recO (s:List UInt8) (l:List (List UInt8 × List UInt8)):Option (List UInt8):=if 0<l.length then zd (some [114,101,99,111,114,100,32]) (zd (tokO 1 0 s) (zd (some [32,123,32]) (zd (rowO (l.map parO) l.length) (some [32,125,10])))) else none
abbrev rzO (s:List UInt8) (base:Option Addr) (m cap:Nat) (line:Int):Obj:=.cells #[.string (za s),.slice base m cap,.int .i64 line] 74
abbrev rzV (s:List UInt8) (base:Option Addr) (m cap:Nat) (line:Int):Value:=.agg #[.string (za s),.slice base m cap,.int .i64 line]
theorem vD {w:World} {N:Nat} {s:List UInt8} {base:Option Addr} {m cap:Nat} {line:Int} (p:w.heap[N]?=some (rzO s base m cap line)):w.cell? ⟨N,0,none⟩=some (.string (za s))∧w.cell? ⟨N,1,none⟩=some (.slice base m cap)∧w.cell? ⟨N,2,none⟩=some (.int .i64 line):=by
 refine ⟨?_,?_,?_⟩ <;> (simp only [World.cell?,p];rfl)
theorem zbC (w0:World) (hT:ZV w0) (s:List UInt8) (l:List (List UInt8 × List UInt8)) (base:Option Addr) (m cap r:Nat) (line:Int) (q:Option Nat) (t:List UInt8) (w:World) (h:zH w0 r q t w) (hs:s.length≤100000000) (hm:m=l.length) (hc:l.length≤cap) (hmx:cap≤maxLen) (hl:∀i x,l[i]?=some x→∃b o,base=some ⟨b,o,none⟩∧b<w0.heap.size∧x.1.length≤100000000∧x.2.length≤100000000∧w0.cell? ⟨b,o+i*2,none⟩=some (.string (za x.1))∧w0.cell? ⟨b,o+i*2+1,none⟩=some (.string (za x.2))) :
  Calls Tryz.prog 70 #[.pointer (some ⟨r,0,none⟩),rzV s base m cap line] w (zr w0 r q t w (recO s l)):=by
 obtain ⟨R,hR⟩:∃R,R=recO s l:=⟨_,rfl⟩;rw [←hR];have HK0:Hid (∀(q:Option Nat) (t:List UInt8) (w:World),zH w0 r q t w→Calls Tryz.prog 82 #[.pointer (some ⟨r,0,none⟩),.string (za s)] w (zr w0 r q t w (tokO 1 0 s))):=fun q t w h=>Yb w0 r q t s w hT h hs
 have HK1:Hid (∀(q:Option Nat) (t:List UInt8) (w:World),zH w0 r q t w→Calls Tryz.prog 109 #[.pointer (some ⟨r,0,none⟩),.slice base m cap,.func (.func 110) #[.pointer (some ⟨r,0,none⟩)] #[]] w (zr w0 r q t w (rowO (l.map parO) l.length))):=fun q t w h=>by rw [hm];exact vX w0 l base cap r q t w h hc hmx hl hT
 have hmf:∀(fn:Fn) (first cap:Array Value) (w:World),(Instr.makeFunc fn first cap).run Tryz.prog w=.ok (.func fn first cap) w:=fun _ _ _ _=>rfl
 obtain ⟨w1,hw1⟩:∃w1,w1=w.alloc (rzO s base m cap line):=⟨_,rfl⟩;have hb1:Below w.heap.size w w1:=by rw [hw1];exact (Below.refl _ w).alloc (Nat.le_refl _) _
 have p1:w1.heap[w.heap.size]?=some (rzO s base m cap line):=by rw [hw1];exact World.alloc_heap_new w _
 have hsz1:w1.heap.size=w.heap.size+1:=by rw [hw1];simp
 have hW1:=h.below hb1;have HL1:Hid (zu r q w w1 q w1):=zu.start h hb1;have HR:Hid (R=if 0<m then zd (some [114,101,99,111,114,100,32]) (zd (tokO 1 0 s) (zd (some [32,123,32]) (zd (rowO (l.map parO) l.length) (some [32,125,10])))) else none):=show _=_ by rw [hR,hm];rfl
 have HW1:Hid (zH w0 r q t w1):=hW1;have HP1:Hid (w1.heap[w.heap.size]?=some (rzO s base m cap line)):=p1;have hw1':=hw1.symm;obtain ⟨c0,c1,c2⟩:=vD p1;generalize tokO 1 0 s=X0 at *;generalize rowO (l.map parO) l.length=X1 at *;clear hR hW1 p1 hw1 hb1 h hT hl hm hc hmx;have hR:=HR.out;clear HR
 by_cases hm0:0<m
 ·rw [if_pos hm0] at hR
  have HR:Hid (R=zd (some [114,101,99,111,114,100,32]) (zd X0 (zd (some [32,123,32]) (zd X1 (some [32,125,10]))))):=hR;clear hR;have hm1:(0:Int)<(m:Int):=by omega
  have ca:=Zi true w1
  go_enter Tryz.func70,Tryz.ntmps70
  go_wp2_with fail
  refine ca.mono ?_;clear ca;rintro e wa ⟨hh,rfl⟩;obtain rfl:=hh.symm;simp only [xY];have cp:=zE w0 r q (t) [114,101,99,111,114,100,32] w1 HW1.out (by simp)
  go_wp2_with fail
  refine cp.mono ?_;clear cp c0 c1 c2;rintro e w2 ⟨q2,hto2,rfl,hw2⟩;have HL2:Hid (zu r q w w1 q2 w2):=HL1.out.step hto2;have HW2:Hid (zH w0 r q2 (t++[114,101,99,111,114,100,32]) w2):=hw2;clear hto2 hw2;obtain ⟨c0,c1,c2⟩:=vD ((HL2.out.block _ (Nat.le_refl _) (by omega)).trans HP1.out)
  have cp:=HK0.out q2 (t++[114,101,99,111,114,100,32]) w2 HW2.out;go_wp2_with fail
  refine cp.mono ?_;clear cp c0 c1 c2;rintro e w3 ⟨q3,hto3,hp3⟩;cases X0 with
  | none=>subst hp3;obtain rfl:R=none:=HR.out;exact ⟨rfl,q3,(HL2.out.step hto3).unto,rfl⟩
  | some u0 =>
  obtain ⟨rfl,hw3⟩:=hp3;have HL3:Hid (zu r q w w1 q3 w3):=HL2.out.step hto3;have HW3:Hid (zH w0 r q3 (t++[114,101,99,111,114,100,32]++u0) w3):=hw3;clear hto3 hw3;obtain ⟨c0,c1,c2⟩:=vD ((HL3.out.block _ (Nat.le_refl _) (by omega)).trans HP1.out)
  have cp:=zE w0 r q3 (t++[114,101,99,111,114,100,32]++u0) [32,123,32] w3 HW3.out (by simp)
  go_wp2_with fail
  refine cp.mono ?_;clear cp c0 c1 c2;rintro e w4 ⟨q4,hto4,rfl,hw4⟩;have HL4:Hid (zu r q w w1 q4 w4):=HL3.out.step hto4;have HW4:Hid (zH w0 r q4 (t++[114,101,99,111,114,100,32]++u0++[32,123,32]) w4):=hw4;clear hto4 hw4;obtain ⟨c0,c1,c2⟩:=vD ((HL4.out.block _ (Nat.le_refl _) (by omega)).trans HP1.out)
  have cp:=HK1.out q4 (t++[114,101,99,111,114,100,32]++u0++[32,123,32]) w4 HW4.out;go_wp2_with fail
  refine cp.mono ?_;clear cp c0 c1 c2;rintro e w5 ⟨q5,hto5,hp5⟩;cases X1 with
  | none=>subst hp5;obtain rfl:R=none:=HR.out;exact ⟨rfl,q5,(HL4.out.step hto5).unto,rfl⟩
  | some u1 =>
  obtain ⟨rfl,hw5⟩:=hp5;have HL5:Hid (zu r q w w1 q5 w5):=HL4.out.step hto5;have HW5:Hid (zH w0 r q5 (t++[114,101,99,111,114,100,32]++u0++[32,123,32]++u1) w5):=hw5;clear hto5 hw5;obtain ⟨c0,c1,c2⟩:=vD ((HL5.out.block _ (Nat.le_refl _) (by omega)).trans HP1.out)
  have cp:=zE w0 r q5 (t++[114,101,99,111,114,100,32]++u0++[32,123,32]++u1) [32,125,10] w5 HW5.out (by simp)
  go_wp2_with fail
  refine cp.mono ?_;clear cp c0 c1 c2;rintro e w6 ⟨q6,hto6,rfl,hw6⟩;have HL6:Hid (zu r q w w1 q6 w6):=HL5.out.step hto6;have HW6:Hid (zH w0 r q6 (t++[114,101,99,111,114,100,32]++u0++[32,123,32]++u1++[32,125,10]) w6):=hw6;clear hto6 hw6;obtain ⟨c0,c1,c2⟩:=vD ((HL6.out.block _ (Nat.le_refl _) (by omega)).trans HP1.out)
  obtain rfl:R=some ([114,101,99,111,114,100,32]++(u0++([32,123,32]++(u1++([32,125,10]))))):=HR.out;have HP:Hid (zr w0 r q t w (some ([114,101,99,111,114,100,32]++(u0++([32,123,32]++(u1++([32,125,10])))))) (.returned (.tuple #[])) w6):=⟨q6,HL6.out.unto,rfl,by have:=HW6.out;simpa only [List.append_assoc] using this⟩
  clear HL1 HW1 HL2 HW2 HL3 HW3 HL4 HW4 HL5 HW5 HL6 HW6 c0 c1 c2 HR HP1 HK0 HK1;go_wp2
  exact bodyPost_ret (v:=.tuple #[]) (by simp [results,Tryz.results70,go_sem]) rfl HP.out
 ·rw [if_neg hm0] at hR
  subst hR;obtain rfl:m=0:=by omega
  have ca:=Zi false w1
  go_enter Tryz.func70,Tryz.ntmps70
  go_wp2_with fail
  refine ca.mono ?_;clear ca;rintro e wa ⟨hh,rfl⟩;obtain rfl:=hh.symm;exact ⟨rfl,q,HL1.out.unto,rfl⟩
def ZB {α:Type} (P:α→List Value→Prop) (sz B:Nat) (w:World) (l:List α) (base:Option Addr) (m cap:Nat):Prop :=
 m=l.length∧l.length≤cap∧cap≤maxLen∧∀i x,l[i]?=some x→∃b o c,base=some ⟨b,o,none⟩∧b<B∧b<w.heap.size∧c.length=sz∧P x c∧∀j u,c[j]?=some u→w.cell? ⟨b,o+i*sz+j,none⟩=some u
theorem ZB.kept {α:Type} {P P':α→List Value→Prop} {sz B:Nat} {w w':World} {l:List α} {base:Option Addr} {m cap:Nat} (h:ZB P sz B w l base m cap) (hb:Below B w w') (hP:∀x c,P x c→P' x c):ZB P' sz B w' l base m cap:=by
 obtain ⟨h1,h2,h3,h4⟩:=h;refine ⟨h1,h2,h3,fun i x hx=>?_⟩
 obtain ⟨b,o,c,e,hB,hlt,hc,hp,hcell⟩:=h4 i x hx;exact ⟨b,o,c,e,hB,Nat.lt_of_lt_of_le hlt hb.size,hc,hP x c hp,fun j u hj=>by rw [World.cell?_of_block (hb.block b hB)];exact hcell j u hj⟩
theorem ZB.wide {α:Type} {P P':α→List Value→Prop} {sz B B':Nat} {w:World} {l:List α} {base:Option Addr} {m cap:Nat} (h:ZB P sz B w l base m cap) (hB:B≤B') (hP:∀x c,P x c→P' x c):ZB P' sz B' w l base m cap:=by
 obtain ⟨h1,h2,h3,h4⟩:=h;refine ⟨h1,h2,h3,fun i x hx=>?_⟩
 obtain ⟨b,o,c,e,hb,hlt,hc,hp,hcell⟩:=h4 i x hx;exact ⟨b,o,c,e,Nat.lt_of_lt_of_le hb hB,hlt,hc,hP x c hp,hcell⟩
inductive Sz where
 | mk (k:Int) (s:List UInt8) (es:List Ez) (body els:List Sz) (line:Int)
abbrev EzC (B:Nat) (w:World) (x:Ez) (c:List Value):Prop:=ZJ B w x (.agg c.toArray)
def ZT (B:Nat) (w:World):Nat→Sz→List Value→Prop
 | 0,_,_=>False
 | f+1,.mk k s es body els line,c=>∃be me ce bb mb cb bl ml cl,c=[.int .i64 k,.string (za s),.slice be me ce,.slice bb mb cb,.slice bl ml cl,.int .i64 line]∧s.length≤100000000∧ZB (EzC B w) 5 B w es be me ce∧ZB (ZT B w f) 6 B w body bb mb cb∧ZB (ZT B w f) 6 B w els bl ml cl
theorem ZT.kept {B:Nat} {w w':World} (hb:Below B w w'):∀(f:Nat) (x:Sz) (c:List Value),ZT B w f x c→ZT B w' f x c
 | 0,_,_,h=>h.elim
 | f+1,.mk k s es body els line,c,h=>by
  obtain ⟨be,me,ce,bb,mb,cb,bl,ml,cl,h1,h2,h3,h4,h5⟩:=h;exact ⟨be,me,ce,bb,mb,cb,bl,ml,cl,h1,h2,h3.kept hb fun x c h=>ZJ.kept h hb,h4.kept hb (ZT.kept hb f),h5.kept hb (ZT.kept hb f)⟩
theorem ZT.wide {B B':Nat} {w:World} (hB:B≤B'):∀(f:Nat) (x:Sz) (c:List Value),ZT B w f x c→ZT B' w f x c
 | 0,_,_,h=>h.elim
 | f+1,.mk k s es body els line,c,h=>by
  obtain ⟨be,me,ce,bb,mb,cb,bl,ml,cl,h1,h2,h3,h4,h5⟩:=h;exact ⟨be,me,ce,bb,mb,cb,bl,ml,cl,h1,h2,h3.wide hB fun x c h=>ZJ.wide h hB,h4.wide hB (ZT.wide hB f),h5.wide hB (ZT.wide hB f)⟩
abbrev PmZ (x:List UInt8 × List UInt8) (c:List Value):Prop:=c=[.string (za x.1),.string (za x.2)]∧x.1.length≤100000000∧x.2.length≤100000000
structure Rz where
 name:List UInt8
 fields:List (List UInt8 × List UInt8)
 line:Int
structure Fz where
 name:List UInt8
 params:List (List UInt8 × List UInt8)
 result:List UInt8
 body:List Sz
 line:Int
structure Pz where
 recs:List Rz
 funs:List Fz
def X8 (B:Nat) (w:World) (x:Rz) (c:List Value):Prop:=∃b m cap,c=[.string (za x.name),.slice b m cap,.int .i64 x.line]∧x.name.length≤100000000∧ZB PmZ 2 B w x.fields b m cap
def X9 (B:Nat) (w:World) (f:Nat) (x:Fz) (c:List Value):Prop:=∃b m cap b2 m2 cap2,c=[.string (za x.name),.slice b m cap,.string (za x.result),.slice b2 m2 cap2,.int .i64 x.line]∧x.name.length≤100000000∧x.result.length≤100000000∧ZB PmZ 2 B w x.params b m cap∧ZB (ZT B w f) 6 B w x.body b2 m2 cap2
def Xo (B:Nat) (w:World) (f:Nat) (x:Pz) (v:Value):Prop:=∃b m cap b2 m2 cap2,v=.agg #[.slice b m cap,.slice b2 m2 cap2]∧ZB (X8 B w) 3 B w x.recs b m cap∧ZB (X9 B w f) 5 B w x.funs b2 m2 cap2
theorem X8.kept {B:Nat} {w w':World} (hb:Below B w w') (x:Rz) (c:List Value) (h:X8 B w x c):X8 B w' x c:=by
 obtain ⟨b,m,cap,h1,h2,h3⟩:=h;exact ⟨b,m,cap,h1,h2,h3.kept hb fun _ _ h=>h⟩
theorem X8.wide {B B':Nat} {w:World} (hB:B≤B') (x:Rz) (c:List Value) (h:X8 B w x c):X8 B' w x c:=by
 obtain ⟨b,m,cap,h1,h2,h3⟩:=h;exact ⟨b,m,cap,h1,h2,h3.wide hB fun _ _ h=>h⟩
theorem X9.kept {B:Nat} {w w':World} (hb:Below B w w') (f:Nat) (x:Fz) (c:List Value) (h:X9 B w f x c):X9 B w' f x c:=by
 obtain ⟨b,m,cap,b2,m2,cap2,h1,h2,h3,h4,h5⟩:=h;exact ⟨b,m,cap,b2,m2,cap2,h1,h2,h3,h4.kept hb fun _ _ h=>h,h5.kept hb (ZT.kept hb f)⟩
theorem X9.wide {B B':Nat} {w:World} (hB:B≤B') (f:Nat) (x:Fz) (c:List Value) (h:X9 B w f x c):X9 B' w f x c:=by
 obtain ⟨b,m,cap,b2,m2,cap2,h1,h2,h3,h4,h5⟩:=h;exact ⟨b,m,cap,b2,m2,cap2,h1,h2,h3,h4.wide hB fun _ _ h=>h,h5.wide hB (ZT.wide hB f)⟩
theorem Xo.kept {B:Nat} {w w':World} (hb:Below B w w') {f:Nat} {x:Pz} {v:Value} (h:Xo B w f x v):Xo B w' f x v:=by
 obtain ⟨b,m,cap,b2,m2,cap2,h1,h2,h3⟩:=h;exact ⟨b,m,cap,b2,m2,cap2,h1,h2.kept hb (X8.kept hb),h3.kept hb (X9.kept hb f)⟩
theorem Xo.wide {B B':Nat} {w:World} (hB:B≤B') {f:Nat} {x:Pz} {v:Value} (h:Xo B w f x v):Xo B' w f x v:=by
 obtain ⟨b,m,cap,b2,m2,cap2,h1,h2,h3⟩:=h;exact ⟨b,m,cap,b2,m2,cap2,h1,h2.wide hB (X8.wide hB),h3.wide hB (X9.wide hB f)⟩
def xx (l:List (Option (List UInt8))):Nat→Option (List UInt8)
 | 0=>some []
 | i+1=>zd (xx l i) ((l[i]?).getD none)
theorem QV (l:List (Option (List UInt8))) {i:Nat} (h:xx l i=none):∀k,xx l (i+k)=none
 | 0=>h
 | k+1=>by
  show xx l (i+k+1)=none
  rw [xx,QV l h k];rfl
theorem u6 (l:List (Option (List UInt8))) {i m:Nat} (hi:i<m) (h:(l[i]?).getD none=none):xx l m=none:=by
 have h1:xx l (i+1)=none:=by
  rw [xx,h]
  cases xx l i <;> rfl
 have:=QV l h1 (m-(i+1))
 rwa [show i+1+(m-(i+1))=m by omega] at this
def QW:Ez→Int | .mk k _ _ _ _=>k
def zfP (x:Ez):Bool:=QW x==4||QW x==8||QW x==9
def hasX (k:Int) (es:List Ez):Bool :=
 if k=1∨k=3∨k=4∨k=5∨k=7 then es.length==1
 else if k=2 then (match es with | [a,_]=>zfP a | _=>false)
 else if k=6 then decide (es.length≤1)
 else false
def XT (k:Int) (s:List UInt8) (es:List Ez) (mb ml:Nat):Bool :=
 hasX k es&&(k==1||s==[])&&(k==4||k==3||k==5||mb==0)&&(k==4||ml==0)
def blkO (f:Sz→Option (List UInt8)) (l:List Sz):Option (List UInt8):=zd (some [123,10]) (zd (xx (l.map f) l.length) (some [125]))
def prS:Nat→Sz→Option (List UInt8)
 | 0,_=>none
 | d+1,.mk k s es body els _ =>
  if XT k s es body.length els.length=true then
   if k=1 then match es with
    | a::_=>zd (some [108,101,116,32]) (zd (tokO 1 0 s) (zd (some [32,61,32]) (zd (prE d a) (some [59,10]))))
    | _=>none
   else if k=2 then match es with
    | a::b::_=>zd (prE d a) (zd (some [32,61,32]) (zd (prE d b) (some [59,10])))
    | _=>none
   else if k=6 then match es with
    | []=>zd (some [114,101,116,117,114,110]) (some [59,10])
    | a::_=>zd (some [114,101,116,117,114,110]) (zd (some [32]) (zd (prE d a) (some [59,10])))
   else if k=7 then match es with
    | a::_=>zd (prE d a) (some [59,10])
    | _=>none
   else if k=4 then match es with
    | a::_=>zd (some [105,102,32]) (zd (prE d a) (zd (some [32]) (zd (blkO (prS d) body) (zd (some [32,101,108,115,101,32]) (zd (blkO (prS d) els) (some [10]))))))
    | _=>none
   else match es with
    | a::_=>zd (some (if k=5 then [119,104,105,108,101,32] else [105,102,32])) (zd (prE d a) (zd (some [32]) (zd (blkO (prS d) body) (some [10]))))
    | _=>none
  else none
def funO (x:Fz):Option (List UInt8):=zd (some [102,110,32]) (zd (tokO 1 0 x.name) (zd (some [40]) (zd (rowO (x.params.map parO) x.params.length) (zd (some [41]) (zd (if x.result=[] then some [] else zd (some [58,32]) (typeO x.result)) (zd (some [32]) (zd (blkO (prS 24) x.body) (some [10]))))))))
def zbD (x:Pz):Option (List UInt8):=zd (xx (x.recs.map fun r=>recO r.name r.fields) x.recs.length) (xx (x.funs.map funO) x.funs.length)
end Go.Proofs.YtpejpbbdgblbeaaGreatDoor
