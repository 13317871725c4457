import Derived.Test.YtpejpbbdgblbeaaGreatDoorMC9
import Derived.Test.YtpejpbbdgblbeaaGreatDoorMC10
import Derived.Test.YtpejpbbdgblbeaaGreatDoorSWExpr
import Derived.Test.YtpejpbbdgblbeaaGreatDoorMC13
namespace Go.Proofs.YtpejpbbdgblbeaaGreatDoor
open Go.RowKit Go.Shelf
set_option maxHeartbeats 16000000
set_option maxRecDepth 100000
def parO (p:List UInt8 × List UInt8):Option (List UInt8):=zc (tokO 1 0 p.1) (zc (some [58,32]) (typeO p.2))
theorem zb3 (w0:World) (r:Nat) (q:Option Nat) (t s u:List UInt8) (w:World) (hT:ZE w0) (h:zy w0 r q t w) (hs:s.length≤100000000) (hu:u.length≤100000000) :
  Calls Tryz.prog 110 #[.pointer (some ⟨r,0,none⟩),.agg #[.string (zb s),.string (zb u)]] w (zo w0 r q t w (parO (s,u))):=by
 obtain ⟨R,hR⟩:∃R,R=parO (s,u):=⟨_,rfl⟩;rw [←hR];obtain ⟨w1,y⟩:∃w1,w1=w.alloc (.cells #[.string (zb s),.string (zb u)] 117):=⟨_,rfl⟩;have H:Below w.heap.size w w1:=by rw [y];exact (Below.refl _ w).alloc (Nat.le_refl _) _
 have p1:w1.heap[w.heap.size]?=some (.cells #[.string (zb s),.string (zb u)] 117 (0,0)):=by rw [y];exact World.alloc_heap_new w _
 have ab:w1.heap.size=w.heap.size+1:=by rw [y];simp
 have V:=h.below H;have U:Hid (zr r q w w1 q w1):=zr.start h H
 have o:∀W:World,W.heap[w.heap.size]?=w1.heap[w.heap.size]?→W.cell? ⟨w.heap.size,0,none⟩=some (.string (zb s))∧W.cell? ⟨w.heap.size,1,none⟩=some (.string (zb u)):=fun W hW=>by
  rw [p1] at hW;refine ⟨?_,?_⟩ <;> (simp only [World.cell?,hW];rfl)
 have HC:Hid (∀W:World,W.heap[w.heap.size]?=w1.heap[w.heap.size]?→W.cell? ⟨w.heap.size,0,none⟩=some (.string (zb s))∧W.cell? ⟨w.heap.size,1,none⟩=some (.string (zb u))):=o;have Z:Hid (ZE w0):=hT;obtain ⟨c0,c1⟩:=o w1 rfl;have cn:=yx w0 r q t s w1 hT V hs;have Q:R=zc (tokO 1 0 s) (zc (some [58,32]) (typeO u)):=hR;have HR:Hid (R=zc (tokO 1 0 s) (zc (some [58,32]) (typeO u))):=Q;have ad:=y.symm;clear y p1 H h V o hT hR Q;generalize tokO 1 0 s=X at *
 go_enter Tryz.func110,Tryz.ntmps110
 go_wp2_with fail
 refine cn.mono ?_;clear cn c0 c1;rintro e w2 ⟨q2,A,aa⟩;have J:Hid (zr r q w w1 q2 w2):=U.out.step A;clear A;cases X with
 | none=>subst aa;obtain rfl:R=none:=HR.out;exact ⟨rfl,q2,J.out.unto,rfl⟩
 | some a =>
  obtain ⟨rfl,T⟩:=aa;have cp:=zx w0 r q2 (t++a) [58,32] w2 T (by simp)
  clear T;go_wp2_with fail
  refine cp.mono ?_;clear cp;rintro e w3 ⟨q3,D,rfl,L⟩;have I:Hid (zr r q w w1 q3 w3):=J.out.step D;obtain ⟨c0,c1⟩:=HC.out w3 (I.out.block _ (Nat.le_refl _) (by omega))
  have ct:=qZ w0 r q3 (t++a++[58,32]) u w3 Z.out L hu;clear D L;generalize typeO u=Y at *;go_wp2_with fail
  refine ct.mono ?_;clear ct c0 c1;rintro e w4 ⟨q4,z,O⟩;have G:Hid (zr r q w w1 q4 w4):=I.out.step z;clear z;cases Y with
  | none=>subst O;obtain rfl:R=none:=HR.out;exact ⟨rfl,q4,G.out.unto,rfl⟩
  | some b =>
   obtain ⟨rfl,N⟩:=O;obtain rfl:R=some (a++([58,32]++b)):=HR.out;have HP:Hid (zo w0 r q t w (some (a++([58,32]++b))) (.returned (.tuple #[])) w4):=⟨q4,G.out.unto,rfl,by simpa only [List.append_assoc] using N⟩
   clear N U J I G HC HR Z;go_wp2
   exact bodyPost_ret (v:=.tuple #[]) (by simp [results,Tryz.results110,go_sem]) rfl HP.out
theorem X9 (w0:World) (l:List (List UInt8 × List UInt8)) (base:Option Addr) (cap r:Nat) (q:Option Nat) (t:List UInt8) (w:World) (h:zy w0 r q t w) (hc:l.length≤cap) (hm:cap≤maxLen)
  (hl:∀i x,l[i]?=some x→∃b o,base=some ⟨b,o,none⟩∧b<w0.heap.size∧x.1.length≤100000000∧x.2.length≤100000000∧w0.cell? ⟨b,o+i*2,none⟩=some (.string (zb x.1))∧w0.cell? ⟨b,o+i*2+1,none⟩=some (.string (zb x.2)))
  (hT:ZE w0) :
  Calls Tryz.prog 109 #[.pointer (some ⟨r,0,none⟩),.slice base l.length cap,.func (.func 110) #[.pointer (some ⟨r,0,none⟩)] #[]] w (zo w0 r q t w (rowO (l.map parO) l.length)):=by
 obtain ⟨n,hn⟩:∃n,n=l.length:=⟨_,rfl⟩;rw [←hn] at hc ⊢;have ao:n≤9223372036854775807:=by unfold maxLen at hm;omega
 obtain ⟨R,hR⟩:∃R,R=rowO (l.map parO) n:=⟨_,rfl⟩;rw [←hR];have HR:Hid (R=rowO (l.map parO) n):=hR;have HN:Hid (n=l.length):=hn;have HC:=hl;have ae:Hid (∀i x,l[i]?=some x→∃b o,base=some ⟨b,o,none⟩∧b<w0.heap.size∧x.1.length≤100000000∧x.2.length≤100000000∧w0.cell? ⟨b,o+i*2,none⟩=some (.string (zb x.1))∧w0.cell? ⟨b,o+i*2+1,none⟩=some (.string (zb x.2))):=hl;have af:Hid (ZE w0):=hT;have HW:Hid (zy w0 r q t w):=h;have av:=h.lt.1;have au:=h.lt.2;clear HC hl hT h hn hR
 go_enter Tryz.func109,Tryz.ntmps109
 go_wp2_with fail
 go_loopw [10] (fun i wr=>∃(k:Nat) (A:Option Nat) (s:List UInt8),k≤n∧i=.int .i64 k∧zT r q w A wr∧rowO (l.map parO) k=some s∧zy w0 r A (t++s) wr) (fun i _=>n-(intOf i).toNat)
 case atStart=>exact ⟨0,q,[],Nat.zero_le _,rfl,zT.refl _ _ _,rfl,by rw [List.append_nil];exact HW.out⟩
 case round =>
  obtain ⟨k,A,s,hk,rfl,aa,D,z⟩:=hrel
  by_cases hlt:k<n
  ·obtain ⟨x,hx⟩:∃x,l[k]?=some x:=⟨l[k]'(by rw [←HN.out];exact hlt),List.getElem?_eq_getElem (by rw [←HN.out];exact hlt)⟩
   obtain ⟨b,o,rfl,aj,ag,ak,m0,m1⟩:=ae.out k x hx;have n0:=(z.env.cell (p:=⟨b,o+k*2,none⟩) aj).trans m0;have n1:=(z.env.cell (p:=⟨b,o+k*2+1,none⟩) aj).trans m1;clear m0 m1;have ai:(k:Int)<(n:Int):=by omega
   obtain ⟨H,I⟩:∃H,H=wr.alloc (.cells #[.string (zb x.1),.string (zb x.2)] 117):=⟨_,rfl⟩;have p2:H.heap[wr.heap.size]?=some (.cells #[.string (zb x.1),.string (zb x.2)] 117 (0,0)):=by rw [I];exact World.alloc_heap_new wr _
   have ar:H.heap.size=wr.heap.size+1:=by rw [I];simp
   have J:Hid (zT r q w A H):=show zT _ _ _ _ _ by rw [I];exact aa.alloc _
   have ab:Hid (zy w0 r A (t++s) H):=show zy _ _ _ _ _ by rw [I];exact z.alloc _
   have aq:=z.lt.1;have al:=z.lt.2
   have G:∀W:World,W.heap[wr.heap.size]?=H.heap[wr.heap.size]?→W.cell? ⟨wr.heap.size,0,none⟩=some (.string (zb x.1))∧W.cell? ⟨wr.heap.size,1,none⟩=some (.string (zb x.2)):=fun W hW=>by
    rw [p2] at hW;refine ⟨?_,?_⟩ <;> (simp only [World.cell?,hW];rfl)
   have L:((l.map parO)[k]?).getD none=parO x:=by rw [List.getElem?_map,hx];rfl
   have ad:Hid (parO x=none→R=none):=fun h9=>by rw [HR.out];exact Qb _ hlt (by rw [L,h9])
   have V:Hid (∀u,parO x=some u→rowO (l.map parO) (k+1)=some (s++((if k=0 then [] else [44,32])++u))):=fun u h9=>by
    rw [rowO,D,L,h9];rfl
   have Z:Hid (∀A t1 w1,zy w0 r A t1 w1→zT r q w A w1→Calls Tryz.prog 110 #[.pointer (some ⟨r,0,none⟩),.agg #[.string (zb x.1),.string (zb x.2)]] w1 (zo w0 r A t1 w1 (parO x))):=fun A t1 w1 h1 _=>zb3 w0 r A t1 x.1 x.2 w1 af.out h1 ag ak
   have N:Hid (∀W:World,W.heap[wr.heap.size]?=H.heap[wr.heap.size]?→W.cell? ⟨wr.heap.size,0,none⟩=some (.string (zb x.1))∧W.cell? ⟨wr.heap.size,1,none⟩=some (.string (zb x.2))):=G;have ap:=I.symm;clear G L aa z D ae af HW I p2 ag ak;generalize parO x=X at *;obtain ⟨xa,xb⟩:=x;simp only at *;rcases Nat.eq_zero_or_pos k with am | am
   ·subst am
    rw [Nat.zero_mul,Nat.add_zero] at n0 n1;obtain ⟨c0,c1⟩:=N.out H rfl;have c:=Z.out A (t++s) H ab.out J.out;go_wp2_with fail
    refine c.mono ?_;clear c;rintro e w3 ⟨q3,y,hp⟩;cases X with
    | none=>subst hp;obtain rfl:=ad.out rfl;exact ⟨rfl,q3,J.out.trans y,rfl⟩
    | some u =>
     obtain ⟨rfl,Q⟩:=hp;have O:Hid (∃(k':Nat) (q':Option Nat) (s':List UInt8),k'=1∧zT r q w q' w3∧rowO (l.map parO) k'=some s'∧zy w0 r q' (t++s') w3):=⟨1,q3,_,rfl,J.out.trans y,V.out u rfl,by rw [if_pos trivial,List.nil_append,←List.append_assoc];exact Q⟩
     clear y Q V ad J ab Z N c0 c1;go_wp2
     obtain ⟨k',q',s',rfl,h1,h2,h3⟩:=O.out;exact ⟨⟨1,q',s',by omega,by go_num,h1,h2,h3⟩,by simp [intOf];omega⟩
   ·have aw:(0:Int)<(k:Int):=by omega
    obtain ⟨c0,c1⟩:=N.out H rfl;have cp:=zx w0 r A (t++s) [44,32] H ab.out (by simp)
    go_wp2_with fail
    refine cp.mono ?_;clear cp c0 c1;rintro e w3 ⟨q3,y,rfl,Q⟩;have ax:=y.size;have U:w3.heap[wr.heap.size]?=H.heap[wr.heap.size]?:=y.block _ (by omega) (by omega) (fun e=>by have:=al _ e;omega)
    obtain ⟨c0,c1⟩:=N.out w3 U;have Y:Hid (zT r q w q3 w3):=J.out.trans y;have c:=Z.out q3 (t++s++[44,32]) w3 Q Y.out;clear y Q U;go_wp2_with fail
    refine c.mono ?_;clear c;rintro e w4 ⟨q4,T,hp⟩;cases X with
    | none=>subst hp;obtain rfl:=ad.out rfl;exact ⟨rfl,q4,Y.out.trans T,rfl⟩
    | some u =>
     obtain ⟨rfl,ah⟩:=hp;have O:Hid (∃(k':Nat) (q':Option Nat) (s':List UInt8),k'=k+1∧zT r q w q' w4∧rowO (l.map parO) k'=some s'∧zy w0 r q' (t++s') w4):=⟨k+1,q4,_,rfl,Y.out.trans T,V.out u rfl,by rw [if_neg (by omega),←List.append_assoc,←List.append_assoc];exact ah⟩
     clear T ah V ad J Y ab Z N c0 c1;go_wp2
     obtain ⟨k',q',s',rfl,h1,h2,h3⟩:=O.out;exact ⟨⟨k+1,q',s',by omega,by go_num,h1,h2,h3⟩,by simp [intOf];omega⟩
  ·have an:k=n:=by omega
   have ai:¬(k:Int)<(n:Int):=by omega
   have HP:Hid (zo w0 r q t w R (.returned (.tuple #[])) wr):=show zo _ _ _ _ _ _ _ _ by
    rw [HR.out,←an,D];exact ⟨A,aa,rfl,z⟩
   clear aa z D ae af HW;go_wp2
   exact bodyPost_ret (v:=.tuple #[]) (by simp [results,Tryz.results109,go_sem]) rfl HP.out
def recO (s:List UInt8) (l:List (List UInt8 × List UInt8)):Option (List UInt8):=if 0<l.length then zc (some [114,101,99,111,114,100,32]) (zc (tokO 1 0 s) (zc (some [32,123,32]) (zc (rowO (l.map parO) l.length) (some [32,125,10])))) else none
abbrev rzO (s:List UInt8) (base:Option Addr) (m cap:Nat) (line:Int):Obj:=.cells #[.string (zb s),.slice base m cap,.int .i64 line] 74
abbrev rzV (s:List UInt8) (base:Option Addr) (m cap:Nat) (line:Int):Value:=.agg #[.string (zb s),.slice base m cap,.int .i64 line]
theorem XE {w:World} {N:Nat} {s:List UInt8} {base:Option Addr} {m cap:Nat} {line:Int} (p:w.heap[N]?=some (rzO s base m cap line)):w.cell? ⟨N,0,none⟩=some (.string (zb s))∧w.cell? ⟨N,1,none⟩=some (.slice base m cap)∧w.cell? ⟨N,2,none⟩=some (.int .i64 line):=by
 refine ⟨?_,?_,?_⟩ <;> (simp only [World.cell?,p];rfl)
theorem za1 (w0:World) (hT:ZE w0) (s:List UInt8) (l:List (List UInt8 × List UInt8)) (base:Option Addr) (m cap r:Nat) (line:Int) (q:Option Nat) (t:List UInt8) (w:World) (h:zy w0 r q t w) (hs:s.length≤100000000) (hm:m=l.length) (hc:l.length≤cap) (hmx:cap≤maxLen) (hl:∀i x,l[i]?=some x→∃b o,base=some ⟨b,o,none⟩∧b<w0.heap.size∧x.1.length≤100000000∧x.2.length≤100000000∧w0.cell? ⟨b,o+i*2,none⟩=some (.string (zb x.1))∧w0.cell? ⟨b,o+i*2+1,none⟩=some (.string (zb x.2))) :
  Calls Tryz.prog 70 #[.pointer (some ⟨r,0,none⟩),rzV s base m cap line] w (zo w0 r q t w (recO s l)):=by
 obtain ⟨R,J⟩:∃R,R=recO s l:=⟨_,rfl⟩;rw [←J];have ah:Hid (∀(q:Option Nat) (t:List UInt8) (w:World),zy w0 r q t w→Calls Tryz.prog 82 #[.pointer (some ⟨r,0,none⟩),.string (zb s)] w (zo w0 r q t w (tokO 1 0 s))):=fun q t w h=>yx w0 r q t s w hT h hs
 have am:Hid (∀(q:Option Nat) (t:List UInt8) (w:World),zy w0 r q t w→Calls Tryz.prog 109 #[.pointer (some ⟨r,0,none⟩),.slice base m cap,.func (.func 110) #[.pointer (some ⟨r,0,none⟩)] #[]] w (zo w0 r q t w (rowO (l.map parO) l.length))):=fun q t w h=>by rw [hm];exact X9 w0 l base cap r q t w h hc hmx hl hT
 have aw:∀(fn:Fn) (first cap:Array Value) (w:World),(Instr.makeFunc fn first cap).run Tryz.prog w=.ok (.func fn first cap) w:=fun _ _ _ _=>rfl
 obtain ⟨w1,D⟩:∃w1,w1=w.alloc (rzO s base m cap line):=⟨_,rfl⟩;have T:Below w.heap.size w w1:=by rw [D];exact (Below.refl _ w).alloc (Nat.le_refl _) _
 have p1:w1.heap[w.heap.size]?=some (rzO s base m cap line):=by rw [D];exact World.alloc_heap_new w _
 have ar:w1.heap.size=w.heap.size+1:=by rw [D];simp
 have an:=h.below T;have W:Hid (zr r q w w1 q w1):=zr.start h T;have Z:Hid (R=if 0<m then zc (some [114,101,99,111,114,100,32]) (zc (tokO 1 0 s) (zc (some [32,123,32]) (zc (rowO (l.map parO) l.length) (some [32,125,10])))) else none):=show _=_ by rw [J,hm];rfl
 have ad:Hid (zy w0 r q t w1):=an;have z:Hid (w1.heap[w.heap.size]?=some (rzO s base m cap line)):=p1;have au:=D.symm;obtain ⟨A,c1,c2⟩:=XE p1;generalize tokO 1 0 s=X0 at *;generalize rowO (l.map parO) l.length=X1 at *;clear J an p1 D T h hT hl hm hc hmx;have J:=Z.out;clear Z
 by_cases hm0:0<m
 ·rw [if_pos hm0] at J
  have Z:Hid (R=zc (some [114,101,99,111,114,100,32]) (zc X0 (zc (some [32,123,32]) (zc X1 (some [32,125,10]))))):=J;clear J;have av:(0:Int)<(m:Int):=by omega
  have ca:=z6 true w1
  go_enter Tryz.func70,Tryz.ntmps70
  go_wp2_with fail
  refine ca.mono ?_;clear ca;rintro e wa ⟨hh,rfl⟩;obtain rfl:=hh.symm;simp only [xd];have y:=zx w0 r q (t) [114,101,99,111,114,100,32] w1 ad.out (by simp)
  go_wp2_with fail
  refine y.mono ?_;clear y A c1 c2;rintro e w2 ⟨q2,O,rfl,aj⟩;have L:Hid (zr r q w w1 q2 w2):=W.out.step O;have ak:Hid (zy w0 r q2 (t++[114,101,99,111,114,100,32]) w2):=aj;clear O aj;obtain ⟨A,c1,c2⟩:=XE ((L.out.block _ (Nat.le_refl _) (by omega)).trans z.out)
  have y:=ah.out q2 (t++[114,101,99,111,114,100,32]) w2 ak.out;go_wp2_with fail
  refine y.mono ?_;clear y A c1 c2;rintro e w3 ⟨q3,H,ai⟩;cases X0 with
  | none=>subst ai;obtain rfl:R=none:=Z.out;exact ⟨rfl,q3,(L.out.step H).unto,rfl⟩
  | some u0 =>
  obtain ⟨rfl,aa⟩:=ai;have Y:Hid (zr r q w w1 q3 w3):=L.out.step H;have ag:Hid (zy w0 r q3 (t++[114,101,99,111,114,100,32]++u0) w3):=aa;clear H aa;obtain ⟨A,c1,c2⟩:=XE ((Y.out.block _ (Nat.le_refl _) (by omega)).trans z.out)
  have y:=zx w0 r q3 (t++[114,101,99,111,114,100,32]++u0) [32,123,32] w3 ag.out (by simp)
  go_wp2_with fail
  refine y.mono ?_;clear y A c1 c2;rintro e w4 ⟨q4,N,rfl,ab⟩;have I:Hid (zr r q w w1 q4 w4):=Y.out.step N;have af:Hid (zy w0 r q4 (t++[114,101,99,111,114,100,32]++u0++[32,123,32]) w4):=ab;clear N ab;obtain ⟨A,c1,c2⟩:=XE ((I.out.block _ (Nat.le_refl _) (by omega)).trans z.out)
  have y:=am.out q4 (t++[114,101,99,111,114,100,32]++u0++[32,123,32]) w4 af.out;go_wp2_with fail
  refine y.mono ?_;clear y A c1 c2;rintro e w5 ⟨q5,G,ap⟩;cases X1 with
  | none=>subst ap;obtain rfl:R=none:=Z.out;exact ⟨rfl,q5,(I.out.step G).unto,rfl⟩
  | some u1 =>
  obtain ⟨rfl,ao⟩:=ap;have V:Hid (zr r q w w1 q5 w5):=I.out.step G;have aq:Hid (zy w0 r q5 (t++[114,101,99,111,114,100,32]++u0++[32,123,32]++u1) w5):=ao;clear G ao;obtain ⟨A,c1,c2⟩:=XE ((V.out.block _ (Nat.le_refl _) (by omega)).trans z.out)
  have y:=zx w0 r q5 (t++[114,101,99,111,114,100,32]++u0++[32,123,32]++u1) [32,125,10] w5 aq.out (by simp)
  go_wp2_with fail
  refine y.mono ?_;clear y A c1 c2;rintro e w6 ⟨q6,Q,rfl,al⟩;have U:Hid (zr r q w w1 q6 w6):=V.out.step Q;have ae:Hid (zy w0 r q6 (t++[114,101,99,111,114,100,32]++u0++[32,123,32]++u1++[32,125,10]) w6):=al;clear Q al;obtain ⟨A,c1,c2⟩:=XE ((U.out.block _ (Nat.le_refl _) (by omega)).trans z.out)
  obtain rfl:R=some ([114,101,99,111,114,100,32]++(u0++([32,123,32]++(u1++([32,125,10]))))):=Z.out;have HP:Hid (zo w0 r q t w (some ([114,101,99,111,114,100,32]++(u0++([32,123,32]++(u1++([32,125,10])))))) (.returned (.tuple #[])) w6):=⟨q6,U.out.unto,rfl,by have:=ae.out;simpa only [List.append_assoc] using this⟩
  clear W ad L ak Y ag I af V aq U ae A c1 c2 Z z ah am;go_wp2
  exact bodyPost_ret (v:=.tuple #[]) (by simp [results,Tryz.results70,go_sem]) rfl HP.out
 ·rw [if_neg hm0] at J
  subst J;obtain rfl:m=0:=by omega
  have ca:=z6 false w1
  go_enter Tryz.func70,Tryz.ntmps70
  go_wp2_with fail
  refine ca.mono ?_;clear ca;rintro e wa ⟨hh,rfl⟩;obtain rfl:=hh.symm;exact ⟨rfl,q,W.out.unto,rfl⟩
def Zr {α:Type} (P:α→List Value→Prop) (sz B:Nat) (w:World) (l:List α) (base:Option Addr) (m cap:Nat):Prop :=
 m=l.length∧l.length≤cap∧cap≤maxLen∧∀i x,l[i]?=some x→∃b o c,base=some ⟨b,o,none⟩∧b<B∧b<w.heap.size∧c.length=sz∧P x c∧∀j u,c[j]?=some u→w.cell? ⟨b,o+i*sz+j,none⟩=some u
theorem Zr.kept {α:Type} {P P':α→List Value→Prop} {sz B:Nat} {w w':World} {l:List α} {base:Option Addr} {m cap:Nat} (h:Zr P sz B w l base m cap) (hb:Below B w w') (hP:∀x c,P x c→P' x c):Zr P' sz B w' l base m cap:=by
 obtain ⟨G,I,D,L⟩:=h;refine ⟨G,I,D,fun i x hx=>?_⟩
 obtain ⟨b,o,c,e,A,z,J,H,y⟩:=L i x hx;exact ⟨b,o,c,e,A,Nat.lt_of_lt_of_le z hb.size,J,hP x c H,fun j u hj=>by rw [World.cell?_of_block (hb.block b A)];exact y j u hj⟩
theorem Zr.wide {α:Type} {P P':α→List Value→Prop} {sz B B':Nat} {w:World} {l:List α} {base:Option Addr} {m cap:Nat} (h:Zr P sz B w l base m cap) (hB:B≤B') (hP:∀x c,P x c→P' x c):Zr P' sz B' w l base m cap:=by
 obtain ⟨D,I,A,L⟩:=h;refine ⟨D,I,A,fun i x hx=>?_⟩
 obtain ⟨b,o,c,e,G,z,J,H,y⟩:=L i x hx;exact ⟨b,o,c,e,Nat.lt_of_lt_of_le G hB,z,J,hP x c H,y⟩
inductive Sz where
 | mk (k:Int) (s:List UInt8) (es:List Ez) (body els:List Sz) (line:Int)
abbrev QS (B:Nat) (w:World) (x:Ez) (c:List Value):Prop:=Zy B w x (.agg c.toArray)
def ZW (B:Nat) (w:World):Nat→Sz→List Value→Prop
 | 0,_,_=>False
 | f+1,.mk k s es body els line,c=>∃be me ce bb mb cb bl ml cl,c=[.int .i64 k,.string (zb s),.slice be me ce,.slice bb mb cb,.slice bl ml cl,.int .i64 line]∧s.length≤100000000∧Zr (QS B w) 5 B w es be me ce∧Zr (ZW B w f) 6 B w body bb mb cb∧Zr (ZW B w f) 6 B w els bl ml cl
theorem ZW.kept {B:Nat} {w w':World} (hb:Below B w w'):∀(f:Nat) (x:Sz) (c:List Value),ZW B w f x c→ZW B w' f x c
 | 0,_,_,h=>h.elim
 | f+1,.mk k s es body els line,c,h=>by
  obtain ⟨z,J,O,Q,D,L,bl,G,H,y,N,o,A,I⟩:=h;exact ⟨z,J,O,Q,D,L,bl,G,H,y,N,o.kept hb fun x c h=>Zy.kept h hb,A.kept hb (ZW.kept hb f),I.kept hb (ZW.kept hb f)⟩
theorem ZW.wide {B B':Nat} {w:World} (hB:B≤B'):∀(f:Nat) (x:Sz) (c:List Value),ZW B w f x c→ZW B' w f x c
 | 0,_,_,h=>h.elim
 | f+1,.mk k s es body els line,c,h=>by
  obtain ⟨z,J,O,Q,D,L,bl,G,H,y,N,o,A,I⟩:=h;exact ⟨z,J,O,Q,D,L,bl,G,H,y,N,o.wide hB fun x c h=>Zy.wide h hB,A.wide hB (ZW.wide hB f),I.wide hB (ZW.wide hB f)⟩
abbrev PmZ (x:List UInt8 × List UInt8) (c:List Value):Prop:=c=[.string (zb x.1),.string (zb x.2)]∧x.1.length≤100000000∧x.2.length≤100000000
structure Rz where
 name:List UInt8
 fields:List (List UInt8 × List UInt8)
 line:Int
structure Fz where
 name:List UInt8
 params:List (List UInt8 × List UInt8)
 result:List UInt8
 body:List Sz
 line:Int
structure Pz where
 recs:List Rz
 funs:List Fz
def Xk (B:Nat) (w:World) (x:Rz) (c:List Value):Prop:=∃b m cap,c=[.string (zb x.name),.slice b m cap,.int .i64 x.line]∧x.name.length≤100000000∧Zr PmZ 2 B w x.fields b m cap
def Xl (B:Nat) (w:World) (f:Nat) (x:Fz) (c:List Value):Prop:=∃b m cap b2 m2 cap2,c=[.string (zb x.name),.slice b m cap,.string (zb x.result),.slice b2 m2 cap2,.int .i64 x.line]∧x.name.length≤100000000∧x.result.length≤100000000∧Zr PmZ 2 B w x.params b m cap∧Zr (ZW B w f) 6 B w x.body b2 m2 cap2
def xJ (B:Nat) (w:World) (f:Nat) (x:Pz) (v:Value):Prop:=∃b m cap b2 m2 cap2,v=.agg #[.slice b m cap,.slice b2 m2 cap2]∧Zr (Xk B w) 3 B w x.recs b m cap∧Zr (Xl B w f) 5 B w x.funs b2 m2 cap2
theorem Xk.kept {B:Nat} {w w':World} (hb:Below B w w') (x:Rz) (c:List Value) (h:Xk B w x c):Xk B w' x c:=by
 obtain ⟨b,m,o,z,A,y⟩:=h;exact ⟨b,m,o,z,A,y.kept hb fun _ _ h=>h⟩
theorem Xk.wide {B B':Nat} {w:World} (hB:B≤B') (x:Rz) (c:List Value) (h:Xk B w x c):Xk B' w x c:=by
 obtain ⟨b,m,o,z,A,y⟩:=h;exact ⟨b,m,o,z,A,y.wide hB fun _ _ h=>h⟩
theorem Xl.kept {B:Nat} {w w':World} (hb:Below B w w') (f:Nat) (x:Fz) (c:List Value) (h:Xl B w f x c):Xl B w' f x c:=by
 obtain ⟨b,m,y,J,z,o,D,H,A,I,G⟩:=h;exact ⟨b,m,y,J,z,o,D,H,A,I.kept hb fun _ _ h=>h,G.kept hb (ZW.kept hb f)⟩
theorem Xl.wide {B B':Nat} {w:World} (hB:B≤B') (f:Nat) (x:Fz) (c:List Value) (h:Xl B w f x c):Xl B' w f x c:=by
 obtain ⟨b,m,y,J,z,o,D,H,A,I,G⟩:=h;exact ⟨b,m,y,J,z,o,D,H,A,I.wide hB fun _ _ h=>h,G.wide hB (ZW.wide hB f)⟩
theorem xJ.kept {B:Nat} {w w':World} (hb:Below B w w') {f:Nat} {x:Pz} {v:Value} (h:xJ B w f x v):xJ B w' f x v:=by
 obtain ⟨b,m,y,H,z,o,D,G,A⟩:=h;exact ⟨b,m,y,H,z,o,D,G.kept hb (Xk.kept hb),A.kept hb (Xl.kept hb f)⟩
theorem xJ.wide {B B':Nat} {w:World} (hB:B≤B') {f:Nat} {x:Pz} {v:Value} (h:xJ B w f x v):xJ B' w f x v:=by
 obtain ⟨b,m,y,H,z,o,D,G,A⟩:=h;exact ⟨b,m,y,H,z,o,D,G.wide hB (Xk.wide hB),A.wide hB (Xl.wide hB f)⟩
def yL (l:List (Option (List UInt8))):Nat→Option (List UInt8)
 | 0=>some []
 | i+1=>zc (yL l i) ((l[i]?).getD none)
theorem Qd (l:List (Option (List UInt8))) {i:Nat} (h:yL l i=none):∀k,yL l (i+k)=none
 | 0=>h
 | k+1=>by
  show yL l (i+k+1)=none
  rw [yL,Qd l h k];rfl
theorem ue (l:List (Option (List UInt8))) {i m:Nat} (hi:i<m) (h:(l[i]?).getD none=none):yL l m=none:=by
 have o:yL l (i+1)=none:=by
  rw [yL,h]
  cases yL l i <;> rfl
 have:=Qd l o (m-(i+1))
 rwa [show i+1+(m-(i+1))=m by omega] at this
def VJ:Ez→Int | .mk k _ _ _ _=>k
def x9 (x:Ez):Bool:=VJ x==4||VJ x==8||VJ x==9
def hasX (k:Int) (es:List Ez):Bool :=
 if k=1∨k=3∨k=4∨k=5∨k=7 then es.length==1
 else if k=2 then (match es with | [a,_]=>x9 a | _=>false)
 else if k=6 then decide (es.length≤1)
 else false
def Ye (k:Int) (s:List UInt8) (es:List Ez) (mb ml:Nat):Bool :=
 hasX k es&&(k==1||s==[])&&(k==4||k==3||k==5||mb==0)&&(k==4||ml==0)
def blkO (f:Sz→Option (List UInt8)) (l:List Sz):Option (List UInt8):=zc (some [123,10]) (zc (yL (l.map f) l.length) (some [125]))
def prS:Nat→Sz→Option (List UInt8)
 | 0,_=>none
 | d+1,.mk k s es body els _ =>
  if Ye k s es body.length els.length=true then
   if k=1 then match es with
    | a::_=>zc (some [108,101,116,32]) (zc (tokO 1 0 s) (zc (some [32,61,32]) (zc (prE d a) (some [59,10]))))
    | _=>none
   else if k=2 then match es with
    | a::b::_=>zc (prE d a) (zc (some [32,61,32]) (zc (prE d b) (some [59,10])))
    | _=>none
   else if k=6 then match es with
    | []=>zc (some [114,101,116,117,114,110]) (some [59,10])
    | a::_=>zc (some [114,101,116,117,114,110]) (zc (some [32]) (zc (prE d a) (some [59,10])))
   else if k=7 then match es with
    | a::_=>zc (prE d a) (some [59,10])
    | _=>none
   else if k=4 then match es with
    | a::_=>zc (some [105,102,32]) (zc (prE d a) (zc (some [32]) (zc (blkO (prS d) body) (zc (some [32,101,108,115,101,32]) (zc (blkO (prS d) els) (some [10]))))))
    | _=>none
   else match es with
    | a::_=>zc (some (if k=5 then [119,104,105,108,101,32] else [105,102,32])) (zc (prE d a) (zc (some [32]) (zc (blkO (prS d) body) (some [10]))))
    | _=>none
  else none
def funO (x:Fz):Option (List UInt8):=zc (some [102,110,32]) (zc (tokO 1 0 x.name) (zc (some [40]) (zc (rowO (x.params.map parO) x.params.length) (zc (some [41]) (zc (if x.result=[] then some [] else zc (some [58,32]) (typeO x.result)) (zc (some [32]) (zc (blkO (prS 24) x.body) (some [10]))))))))
def vd (x:Pz):Option (List UInt8):=zc (yL (x.recs.map fun r=>recO r.name r.fields) x.recs.length) (yL (x.funs.map funO) x.funs.length)
end Go.Proofs.YtpejpbbdgblbeaaGreatDoor
