import Derived.Test.YtcphojjpapgblaaGreatDoorMC7
import Derived.Test.YtcphojjpapgblaaGreatDoorMC8
import Derived.Test.YtcphojjpapgblaaGreatDoorSWExpr
namespace Go.Proofs.YtcphojjpapgblaaGreatDoor
open Go.RowKit Go.Shelf
set_option maxHeartbeats 16000000
set_option maxRecDepth 100000
def parO (p:List UInt8 × List UInt8):Option (List UInt8):=zd (tokO 1 0 p.1) (zd (some [58,32]) (typeO p.2))
theorem zcn (w0:World) (r:Nat) (q:Option Nat) (t s u:List UInt8) (w:World) (hT:ZC w0) (h:zy w0 r q t w) (hs:s.length≤100000000) (hu:u.length≤100000000) :
  Calls Tryz.prog 108 #[.pointer (some ⟨r,0,none⟩),.agg #[.string (zb s),.string (zb u)]] w (zn w0 r q t w (parO (s,u))):=by
 obtain ⟨R,hR⟩:∃R,R=parO (s,u):=⟨_,rfl⟩;rw [←hR];obtain ⟨w1,y⟩:∃w1,w1=w.alloc (.cells #[.string (zb s),.string (zb u)] 116):=⟨_,rfl⟩;have G:Below w.heap.size w w1:=by rw [y];exact (Below.refl _ w).alloc (Nat.le_refl _) _
 have p1:w1.heap[w.heap.size]?=some (.cells #[.string (zb s),.string (zb u)] 116 (0,0)):=by rw [y];exact World.alloc_heap_new w _
 have ad:w1.heap.size=w.heap.size+1:=by rw [y];simp
 have L:=h.below G;have Z:Hid (zp r q w w1 q w1):=zp.start h G
 have o:∀W:World,W.heap[w.heap.size]?=w1.heap[w.heap.size]?→W.cell? ⟨w.heap.size,0,none⟩=some (.string (zb s))∧W.cell? ⟨w.heap.size,1,none⟩=some (.string (zb u)):=fun W hW=>by
  rw [p1] at hW;refine ⟨?_,?_⟩ <;> (simp only [World.cell?,hW];rfl)
 have HC:Hid (∀W:World,W.heap[w.heap.size]?=w1.heap[w.heap.size]?→W.cell? ⟨w.heap.size,0,none⟩=some (.string (zb s))∧W.cell? ⟨w.heap.size,1,none⟩=some (.string (zb u))):=o;have U:Hid (ZC w0):=hT;obtain ⟨c0,c1⟩:=o w1 rfl;have cn:=yu w0 r q t s w1 hT L hs;have aa:R=zd (tokO 1 0 s) (zd (some [58,32]) (typeO u)):=hR;have HR:Hid (R=zd (tokO 1 0 s) (zd (some [58,32]) (typeO u))):=aa;have ab:=y.symm;clear y p1 G h L o hT hR aa;generalize tokO 1 0 s=X at *
 go_enter Tryz.func108,Tryz.ntmps108
 go_wp2_with fail
 refine cn.mono ?_;clear cn c0 c1;rintro e w2 ⟨q2,D,N⟩;have I:Hid (zp r q w w1 q2 w2):=Z.out.step D;clear D;cases X with
 | none=>subst N;obtain rfl:R=none:=HR.out;exact ⟨rfl,q2,I.out.unto,rfl⟩
 | some a =>
  obtain ⟨rfl,T⟩:=N;have cp:=zw w0 r q2 (t++a) [58,32] w2 T (by simp)
  clear T;go_wp2_with fail
  refine cp.mono ?_;clear cp;rintro e w3 ⟨q3,A,rfl,V⟩;have H:Hid (zp r q w w1 q3 w3):=I.out.step A;obtain ⟨c0,c1⟩:=HC.out w3 (H.out.block _ (Nat.le_refl _) (by omega))
  have ct:=Qj w0 r q3 (t++a++[58,32]) u w3 U.out V hu;clear A V;generalize typeO u=Y at *;go_wp2_with fail
  refine ct.mono ?_;clear ct c0 c1;rintro e w4 ⟨q4,z,Q⟩;have J:Hid (zp r q w w1 q4 w4):=H.out.step z;clear z;cases Y with
  | none=>subst Q;obtain rfl:R=none:=HR.out;exact ⟨rfl,q4,J.out.unto,rfl⟩
  | some b =>
   obtain ⟨rfl,O⟩:=Q;obtain rfl:R=some (a++([58,32]++b)):=HR.out;have HP:Hid (zn w0 r q t w (some (a++([58,32]++b))) (.returned (.tuple #[])) w4):=⟨q4,J.out.unto,rfl,by simpa only [List.append_assoc] using O⟩
   clear O Z I H J HC HR U;go_wp2
   exact bodyPost_ret (v:=.tuple #[]) (by simp [results,Tryz.results108,go_sem]) rfl HP.out
theorem X5 (w0:World) (l:List (List UInt8 × List UInt8)) (base:Option Addr) (cap r:Nat) (q:Option Nat) (t:List UInt8) (w:World) (h:zy w0 r q t w) (hc:l.length≤cap) (hm:cap≤maxLen)
  (hl:∀i x,l[i]?=some x→∃b o,base=some ⟨b,o,none⟩∧b<w0.heap.size∧x.1.length≤100000000∧x.2.length≤100000000∧w0.cell? ⟨b,o+i*2,none⟩=some (.string (zb x.1))∧w0.cell? ⟨b,o+i*2+1,none⟩=some (.string (zb x.2)))
  (hT:ZC w0) :
  Calls Tryz.prog 107 #[.pointer (some ⟨r,0,none⟩),.slice base l.length cap,.func (.func 108) #[.pointer (some ⟨r,0,none⟩)] #[]] w (zn w0 r q t w (rowO (l.map parO) l.length)):=by
 obtain ⟨n,hn⟩:∃n,n=l.length:=⟨_,rfl⟩;rw [←hn] at hc ⊢;have aq:n≤9223372036854775807:=by unfold maxLen at hm;omega
 obtain ⟨R,hR⟩:∃R,R=rowO (l.map parO) n:=⟨_,rfl⟩;rw [←hR];have HR:Hid (R=rowO (l.map parO) n):=hR;have HN:Hid (n=l.length):=hn;have HC:=hl;have ag:Hid (∀i x,l[i]?=some x→∃b o,base=some ⟨b,o,none⟩∧b<w0.heap.size∧x.1.length≤100000000∧x.2.length≤100000000∧w0.cell? ⟨b,o+i*2,none⟩=some (.string (zb x.1))∧w0.cell? ⟨b,o+i*2+1,none⟩=some (.string (zb x.2))):=hl;have af:Hid (ZC w0):=hT;have HW:Hid (zy w0 r q t w):=h;have aw:=h.lt.1;have av:=h.lt.2;clear HC hl hT h hn hR
 go_enter Tryz.func107,Tryz.ntmps107
 go_wp2_with fail
 go_loopw [10] (fun i wr=>∃(k:Nat) (G:Option Nat) (s:List UInt8),k≤n∧i=.int .i64 k∧zT r q w G wr∧rowO (l.map parO) k=some s∧zy w0 r G (t++s) wr) (fun i _=>n-(intOf i).toNat)
 case atStart=>exact ⟨0,q,[],Nat.zero_le _,rfl,zT.refl _ _ _,rfl,by rw [List.append_nil];exact HW.out⟩
 case round =>
  obtain ⟨k,G,s,hk,rfl,ad,D,z⟩:=hrel
  by_cases hlt:k<n
  ·obtain ⟨x,hx⟩:∃x,l[k]?=some x:=⟨l[k]'(by rw [←HN.out];exact hlt),List.getElem?_eq_getElem (by rw [←HN.out];exact hlt)⟩
   obtain ⟨b,o,rfl,ai,an,ah,m0,m1⟩:=ag.out k x hx;have n0:=(z.env.cell (p:=⟨b,o+k*2,none⟩) ai).trans m0;have n1:=(z.env.cell (p:=⟨b,o+k*2+1,none⟩) ai).trans m1;clear m0 m1;have al:(k:Int)<(n:Int):=by omega
   obtain ⟨I,H⟩:∃I,I=wr.alloc (.cells #[.string (zb x.1),.string (zb x.2)] 116):=⟨_,rfl⟩;have p2:I.heap[wr.heap.size]?=some (.cells #[.string (zb x.1),.string (zb x.2)] 116 (0,0)):=by rw [H];exact World.alloc_heap_new wr _
   have ar:I.heap.size=wr.heap.size+1:=by rw [H];simp
   have J:Hid (zT r q w G I):=show zT _ _ _ _ _ by rw [H];exact ad.alloc _
   have ab:Hid (zy w0 r G (t++s) I):=show zy _ _ _ _ _ by rw [H];exact z.alloc _
   have au:=z.lt.1;have am:=z.lt.2
   have A:∀W:World,W.heap[wr.heap.size]?=I.heap[wr.heap.size]?→W.cell? ⟨wr.heap.size,0,none⟩=some (.string (zb x.1))∧W.cell? ⟨wr.heap.size,1,none⟩=some (.string (zb x.2)):=fun W hW=>by
    rw [p2] at hW;refine ⟨?_,?_⟩ <;> (simp only [World.cell?,hW];rfl)
   have Q:((l.map parO)[k]?).getD none=parO x:=by rw [List.getElem?_map,hx];rfl
   have V:Hid (parO x=none→R=none):=fun h9=>by rw [HR.out];exact Ql _ hlt (by rw [Q,h9])
   have ae:Hid (∀u,parO x=some u→rowO (l.map parO) (k+1)=some (s++((if k=0 then [] else [44,32])++u))):=fun u h9=>by
    rw [rowO,D,Q,h9];rfl
   have aa:Hid (∀G t1 w1,zy w0 r G t1 w1→zT r q w G w1→Calls Tryz.prog 108 #[.pointer (some ⟨r,0,none⟩),.agg #[.string (zb x.1),.string (zb x.2)]] w1 (zn w0 r G t1 w1 (parO x))):=fun G t1 w1 h1 _=>zcn w0 r G t1 x.1 x.2 w1 af.out h1 an ah
   have L:Hid (∀W:World,W.heap[wr.heap.size]?=I.heap[wr.heap.size]?→W.cell? ⟨wr.heap.size,0,none⟩=some (.string (zb x.1))∧W.cell? ⟨wr.heap.size,1,none⟩=some (.string (zb x.2))):=A;have ap:=H.symm;clear A Q ad z D ag af HW H p2 an ah;generalize parO x=X at *;obtain ⟨xa,xb⟩:=x;simp only at *;rcases Nat.eq_zero_or_pos k with aj | aj
   ·subst aj
    rw [Nat.zero_mul,Nat.add_zero] at n0 n1;obtain ⟨c0,c1⟩:=L.out I rfl;have c:=aa.out G (t++s) I ab.out J.out;go_wp2_with fail
    refine c.mono ?_;clear c;rintro e w3 ⟨q3,y,hp⟩;cases X with
    | none=>subst hp;obtain rfl:=V.out rfl;exact ⟨rfl,q3,J.out.trans y,rfl⟩
    | some u =>
     obtain ⟨rfl,T⟩:=hp;have U:Hid (∃(k':Nat) (q':Option Nat) (Y:List UInt8),k'=1∧zT r q w q' w3∧rowO (l.map parO) k'=some Y∧zy w0 r q' (t++Y) w3):=⟨1,q3,_,rfl,J.out.trans y,ae.out u rfl,by rw [if_pos trivial,List.nil_append,←List.append_assoc];exact T⟩
     clear y T ae V J ab aa L c0 c1;go_wp2
     obtain ⟨k',q',Y,rfl,h1,h2,h3⟩:=U.out;exact ⟨⟨1,q',Y,by omega,by go_num,h1,h2,h3⟩,by simp [intOf];omega⟩
   ·have ay:(0:Int)<(k:Int):=by omega
    obtain ⟨c0,c1⟩:=L.out I rfl;have cp:=zw w0 r G (t++s) [44,32] I ab.out (by simp)
    go_wp2_with fail
    refine cp.mono ?_;clear cp c0 c1;rintro e w3 ⟨q3,y,rfl,T⟩;have ax:=y.size;have N:w3.heap[wr.heap.size]?=I.heap[wr.heap.size]?:=y.block _ (by omega) (by omega) (fun e=>by have:=am _ e;omega)
    obtain ⟨c0,c1⟩:=L.out w3 N;have Z:Hid (zT r q w q3 w3):=J.out.trans y;have c:=aa.out q3 (t++s++[44,32]) w3 T Z.out;clear y T N;go_wp2_with fail
    refine c.mono ?_;clear c;rintro e w4 ⟨q4,O,hp⟩;cases X with
    | none=>subst hp;obtain rfl:=V.out rfl;exact ⟨rfl,q4,Z.out.trans O,rfl⟩
    | some u =>
     obtain ⟨rfl,ak⟩:=hp;have U:Hid (∃(k':Nat) (q':Option Nat) (Y:List UInt8),k'=k+1∧zT r q w q' w4∧rowO (l.map parO) k'=some Y∧zy w0 r q' (t++Y) w4):=⟨k+1,q4,_,rfl,Z.out.trans O,ae.out u rfl,by rw [if_neg (by omega),←List.append_assoc,←List.append_assoc];exact ak⟩
     clear O ak ae V J Z ab aa L c0 c1;go_wp2
     obtain ⟨k',q',Y,rfl,h1,h2,h3⟩:=U.out;exact ⟨⟨k+1,q',Y,by omega,by go_num,h1,h2,h3⟩,by simp [intOf];omega⟩
  ·have ao:k=n:=by omega
   have al:¬(k:Int)<(n:Int):=by omega
   have HP:Hid (zn w0 r q t w R (.returned (.tuple #[])) wr):=show zn _ _ _ _ _ _ _ _ by
    rw [HR.out,←ao,D];exact ⟨G,ad,rfl,z⟩
   clear ad z D ag af HW;go_wp2
   exact bodyPost_ret (v:=.tuple #[]) (by simp [results,Tryz.results107,go_sem]) rfl HP.out
def recO (s:List UInt8) (l:List (List UInt8 × List UInt8)):Option (List UInt8):=if 0<l.length then zd (some [114,101,99,111,114,100,32]) (zd (tokO 1 0 s) (zd (some [32,123,32]) (zd (rowO (l.map parO) l.length) (some [32,125,10])))) else none
abbrev rzO (s:List UInt8) (base:Option Addr) (m cap:Nat) (line:Int):Obj:=.cells #[.string (zb s),.slice base m cap,.int .i64 line] 73
abbrev rzV (s:List UInt8) (base:Option Addr) (m cap:Nat) (line:Int):Value:=.agg #[.string (zb s),.slice base m cap,.int .i64 line]
theorem XC {w:World} {N:Nat} {s:List UInt8} {base:Option Addr} {m cap:Nat} {line:Int} (p:w.heap[N]?=some (rzO s base m cap line)):w.cell? ⟨N,0,none⟩=some (.string (zb s))∧w.cell? ⟨N,1,none⟩=some (.slice base m cap)∧w.cell? ⟨N,2,none⟩=some (.int .i64 line):=by
 refine ⟨?_,?_,?_⟩ <;> (simp only [World.cell?,p];rfl)
theorem zbd (w0:World) (hT:ZC w0) (s:List UInt8) (l:List (List UInt8 × List UInt8)) (base:Option Addr) (m cap r:Nat) (line:Int) (q:Option Nat) (t:List UInt8) (w:World) (h:zy w0 r q t w) (hs:s.length≤100000000) (hm:m=l.length) (hc:l.length≤cap) (hmx:cap≤maxLen) (hl:∀i x,l[i]?=some x→∃b o,base=some ⟨b,o,none⟩∧b<w0.heap.size∧x.1.length≤100000000∧x.2.length≤100000000∧w0.cell? ⟨b,o+i*2,none⟩=some (.string (zb x.1))∧w0.cell? ⟨b,o+i*2+1,none⟩=some (.string (zb x.2))) :
  Calls Tryz.prog 68 #[.pointer (some ⟨r,0,none⟩),rzV s base m cap line] w (zn w0 r q t w (recO s l)):=by
 obtain ⟨R,I⟩:∃R,R=recO s l:=⟨_,rfl⟩;rw [←I];have af:Hid (∀(q:Option Nat) (t:List UInt8) (w:World),zy w0 r q t w→Calls Tryz.prog 80 #[.pointer (some ⟨r,0,none⟩),.string (zb s)] w (zn w0 r q t w (tokO 1 0 s))):=fun q t w h=>yu w0 r q t s w hT h hs
 have aa:Hid (∀(q:Option Nat) (t:List UInt8) (w:World),zy w0 r q t w→Calls Tryz.prog 107 #[.pointer (some ⟨r,0,none⟩),.slice base m cap,.func (.func 108) #[.pointer (some ⟨r,0,none⟩)] #[]] w (zn w0 r q t w (rowO (l.map parO) l.length))):=fun q t w h=>by rw [hm];exact X5 w0 l base cap r q t w h hc hmx hl hT
 have av:∀(fn:Fn) (first cap:Array Value) (w:World),(Instr.makeFunc fn first cap).run Tryz.prog w=.ok (.func fn first cap) w:=fun _ _ _ _=>rfl
 obtain ⟨w1,H⟩:∃w1,w1=w.alloc (rzO s base m cap line):=⟨_,rfl⟩;have T:Below w.heap.size w w1:=by rw [H];exact (Below.refl _ w).alloc (Nat.le_refl _) _
 have p1:w1.heap[w.heap.size]?=some (rzO s base m cap line):=by rw [H];exact World.alloc_heap_new w _
 have ar:w1.heap.size=w.heap.size+1:=by rw [H];simp
 have ab:=h.below T;have Y:Hid (zp r q w w1 q w1):=zp.start h T;have V:Hid (R=if 0<m then zd (some [114,101,99,111,114,100,32]) (zd (tokO 1 0 s) (zd (some [32,123,32]) (zd (rowO (l.map parO) l.length) (some [32,125,10])))) else none):=show _=_ by rw [I,hm];rfl
 have ao:Hid (zy w0 r q t w1):=ab;have z:Hid (w1.heap[w.heap.size]?=some (rzO s base m cap line)):=p1;have aq:=H.symm;obtain ⟨D,c1,c2⟩:=XC p1;generalize tokO 1 0 s=X0 at *;generalize rowO (l.map parO) l.length=X1 at *;clear I ab p1 H T h hT hl hm hc hmx;have I:=V.out;clear V
 by_cases hm0:0<m
 ·rw [if_pos hm0] at I
  have V:Hid (R=zd (some [114,101,99,111,114,100,32]) (zd X0 (zd (some [32,123,32]) (zd X1 (some [32,125,10]))))):=I;clear I;have au:(0:Int)<(m:Int):=by omega
  have ca:=z6 true w1
  go_enter Tryz.func68,Tryz.ntmps68
  go_wp2_with fail
  refine ca.mono ?_;clear ca;rintro e wa ⟨hh,rfl⟩;obtain rfl:=hh.symm;simp only [Y8];have y:=zw w0 r q (t) [114,101,99,111,114,100,32] w1 ao.out (by simp)
  go_wp2_with fail
  refine y.mono ?_;clear y D c1 c2;rintro e w2 ⟨q2,O,rfl,ak⟩;have J:Hid (zp r q w w1 q2 w2):=Y.out.step O;have ad:Hid (zy w0 r q2 (t++[114,101,99,111,114,100,32]) w2):=ak;clear O ak;obtain ⟨D,c1,c2⟩:=XC ((J.out.block _ (Nat.le_refl _) (by omega)).trans z.out)
  have y:=af.out q2 (t++[114,101,99,111,114,100,32]) w2 ad.out;go_wp2_with fail
  refine y.mono ?_;clear y D c1 c2;rintro e w3 ⟨q3,G,al⟩;cases X0 with
  | none=>subst al;obtain rfl:R=none:=V.out;exact ⟨rfl,q3,(J.out.step G).unto,rfl⟩
  | some u0 =>
  obtain ⟨rfl,an⟩:=al;have U:Hid (zp r q w w1 q3 w3):=J.out.step G;have Z:Hid (zy w0 r q3 (t++[114,101,99,111,114,100,32]++u0) w3):=an;clear G an;obtain ⟨D,c1,c2⟩:=XC ((U.out.block _ (Nat.le_refl _) (by omega)).trans z.out)
  have y:=zw w0 r q3 (t++[114,101,99,111,114,100,32]++u0) [32,123,32] w3 Z.out (by simp)
  go_wp2_with fail
  refine y.mono ?_;clear y D c1 c2;rintro e w4 ⟨q4,N,rfl,ah⟩;have L:Hid (zp r q w w1 q4 w4):=U.out.step N;have ag:Hid (zy w0 r q4 (t++[114,101,99,111,114,100,32]++u0++[32,123,32]) w4):=ah;clear N ah;obtain ⟨D,c1,c2⟩:=XC ((L.out.block _ (Nat.le_refl _) (by omega)).trans z.out)
  have y:=aa.out q4 (t++[114,101,99,111,114,100,32]++u0++[32,123,32]) w4 ag.out;go_wp2_with fail
  refine y.mono ?_;clear y D c1 c2;rintro e w5 ⟨q5,A,ae⟩;cases X1 with
  | none=>subst ae;obtain rfl:R=none:=V.out;exact ⟨rfl,q5,(L.out.step A).unto,rfl⟩
  | some u1 =>
  obtain ⟨rfl,am⟩:=ae;have X:Hid (zp r q w w1 q5 w5):=L.out.step A;have ai:Hid (zy w0 r q5 (t++[114,101,99,111,114,100,32]++u0++[32,123,32]++u1) w5):=am;clear A am;obtain ⟨D,c1,c2⟩:=XC ((X.out.block _ (Nat.le_refl _) (by omega)).trans z.out)
  have y:=zw w0 r q5 (t++[114,101,99,111,114,100,32]++u0++[32,123,32]++u1) [32,125,10] w5 ai.out (by simp)
  go_wp2_with fail
  refine y.mono ?_;clear y D c1 c2;rintro e w6 ⟨q6,Q,rfl,aj⟩;have W:Hid (zp r q w w1 q6 w6):=X.out.step Q;have ap:Hid (zy w0 r q6 (t++[114,101,99,111,114,100,32]++u0++[32,123,32]++u1++[32,125,10]) w6):=aj;clear Q aj;obtain ⟨D,c1,c2⟩:=XC ((W.out.block _ (Nat.le_refl _) (by omega)).trans z.out)
  obtain rfl:R=some ([114,101,99,111,114,100,32]++(u0++([32,123,32]++(u1++([32,125,10]))))):=V.out;have HP:Hid (zn w0 r q t w (some ([114,101,99,111,114,100,32]++(u0++([32,123,32]++(u1++([32,125,10])))))) (.returned (.tuple #[])) w6):=⟨q6,W.out.unto,rfl,by have:=ap.out;simpa only [List.append_assoc] using this⟩
  clear Y ao J ad U Z L ag X ai W ap D c1 c2 V z af aa;go_wp2
  exact bodyPost_ret (v:=.tuple #[]) (by simp [results,Tryz.results68,go_sem]) rfl HP.out
 ·rw [if_neg hm0] at I
  subst I;obtain rfl:m=0:=by omega
  have ca:=z6 false w1
  go_enter Tryz.func68,Tryz.ntmps68
  go_wp2_with fail
  refine ca.mono ?_;clear ca;rintro e wa ⟨hh,rfl⟩;obtain rfl:=hh.symm;exact ⟨rfl,q,Y.out.unto,rfl⟩
end Go.Proofs.YtcphojjpapgblaaGreatDoor
