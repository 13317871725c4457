import Derived.Test.YtpejpbbdgblbeaaGreatDoorMC9
import Derived.Test.YtpejpbbdgblbeaaGreatDoorMC10
import Derived.Test.YtpejpbbdgblbeaaGreatDoorSWExpr
import Derived.Test.YtpejpbbdgblbeaaGreatDoorMC13
namespace Go.Proofs.YtpejpbbdgblbeaaGreatDoor
open Go.RowKit Go.Shelf
set_option maxHeartbeats 16000000
set_option maxRecDepth 100000
def parO (p:List UInt8 × List UInt8):Option (List UInt8):=zc (tokO 1 0 p.1) (zc (some [58,32]) (typeO p.2))
theorem zaV (w0:World) (r:Nat) (q:Option Nat) (t s u:List UInt8) (w:World) (hT:ZC w0) (h:zu w0 r q t w) (hs:s.length≤100000000) (hu:u.length≤100000000) :
  Calls Tryz.prog 110 #[.pointer (some ⟨r,0,none⟩),.agg #[.string (zb s),.string (zb u)]] w (zk w0 r q t w (parO (s,u))):=by
 obtain ⟨R,hR⟩:∃R,R=parO (s,u):=⟨_,rfl⟩;rw [←hR];obtain ⟨w1,y⟩:∃w1,w1=w.alloc (.cells #[.string (zb s),.string (zb u)] 117):=⟨_,rfl⟩;have I:Below w.heap.size w w1:=by rw [y];exact (Below.refl _ w).alloc (Nat.le_refl _) _
 have p1:w1.heap[w.heap.size]?=some (.cells #[.string (zb s),.string (zb u)] 117 (0,0)):=by rw [y];exact World.alloc_heap_new w _
 have aa:w1.heap.size=w.heap.size+1:=by rw [y];simp
 have Q:=h.below I;have O:Hid (zp r q w w1 q w1):=zp.start h I
 have o:∀W:World,W.heap[w.heap.size]?=w1.heap[w.heap.size]?→W.cell? ⟨w.heap.size,0,none⟩=some (.string (zb s))∧W.cell? ⟨w.heap.size,1,none⟩=some (.string (zb u)):=fun W hW=>by
  rw [p1] at hW;refine ⟨?_,?_⟩ <;> (simp only [World.cell?,hW];rfl)
 have HC:Hid (∀W:World,W.heap[w.heap.size]?=w1.heap[w.heap.size]?→W.cell? ⟨w.heap.size,0,none⟩=some (.string (zb s))∧W.cell? ⟨w.heap.size,1,none⟩=some (.string (zb u))):=o;have V:Hid (ZC w0):=hT;obtain ⟨c0,c1⟩:=o w1 rfl;have cn:=ym w0 r q t s w1 hT Q hs;have U:R=zc (tokO 1 0 s) (zc (some [58,32]) (typeO u)):=hR;have HR:Hid (R=zc (tokO 1 0 s) (zc (some [58,32]) (typeO u))):=U;have ab:=y.symm;clear y p1 I h Q o hT hR U;generalize tokO 1 0 s=X at *
 go_enter Tryz.func110,Tryz.ntmps110
 go_wp2_with fail
 refine cn.mono ?_;clear cn c0 c1;rintro e w2 ⟨q2,A,K⟩;have J:Hid (zp r q w w1 q2 w2):=O.out.step A;clear A;cases X with
 | none=>subst K;obtain rfl:R=none:=HR.out;exact ⟨rfl,q2,J.out.unto,rfl⟩
 | some a =>
  obtain ⟨rfl,L⟩:=K;have cp:=zt w0 r q2 (t++a) [58,32] w2 L (by simp)
  clear L;go_wp2_with fail
  refine cp.mono ?_;clear cp;rintro e w3 ⟨q3,D,rfl,N⟩;have H:Hid (zp r q w w1 q3 w3):=J.out.step D;obtain ⟨c0,c1⟩:=HC.out w3 (H.out.block _ (Nat.le_refl _) (by omega))
  have ct:=U2 w0 r q3 (t++a++[58,32]) u w3 V.out N hu;clear D N;generalize typeO u=Y at *;go_wp2_with fail
  refine ct.mono ?_;clear ct c0 c1;rintro e w4 ⟨q4,z,T⟩;have G:Hid (zp r q w w1 q4 w4):=H.out.step z;clear z;cases Y with
  | none=>subst T;obtain rfl:R=none:=HR.out;exact ⟨rfl,q4,G.out.unto,rfl⟩
  | some b =>
   obtain ⟨rfl,Z⟩:=T;obtain rfl:R=some (a++([58,32]++b)):=HR.out;have HP:Hid (zk w0 r q t w (some (a++([58,32]++b))) (.returned (.tuple #[])) w4):=⟨q4,G.out.unto,rfl,by simpa only [List.append_assoc] using Z⟩
   clear Z O J H G HC HR V;go_wp2
   exact bodyPost_ret (v:=.tuple #[]) (by simp [results,Tryz.results110,go_sem]) rfl HP.out
theorem XF (w0:World) (l:List (List UInt8 × List UInt8)) (base:Option Addr) (cap r:Nat) (q:Option Nat) (t:List UInt8) (w:World) (h:zu w0 r q t w) (hc:l.length≤cap) (hm:cap≤maxLen)
  (hl:∀i x,l[i]?=some x→∃b o,base=some ⟨b,o,none⟩∧b<w0.heap.size∧x.1.length≤100000000∧x.2.length≤100000000∧w0.cell? ⟨b,o+i*2,none⟩=some (.string (zb x.1))∧w0.cell? ⟨b,o+i*2+1,none⟩=some (.string (zb x.2)))
  (hT:ZC w0) :
  Calls Tryz.prog 109 #[.pointer (some ⟨r,0,none⟩),.slice base l.length cap,.func (.func 110) #[.pointer (some ⟨r,0,none⟩)] #[]] w (zk w0 r q t w (rowO (l.map parO) l.length)):=by
 obtain ⟨n,hn⟩:∃n,n=l.length:=⟨_,rfl⟩;rw [←hn] at hc ⊢;have aq:n≤9223372036854775807:=by unfold maxLen at hm;omega
 obtain ⟨R,hR⟩:∃R,R=rowO (l.map parO) n:=⟨_,rfl⟩;rw [←hR];have HR:Hid (R=rowO (l.map parO) n):=hR;have HN:Hid (n=l.length):=hn;have HC:=hl;have ag:Hid (∀i x,l[i]?=some x→∃b o,base=some ⟨b,o,none⟩∧b<w0.heap.size∧x.1.length≤100000000∧x.2.length≤100000000∧w0.cell? ⟨b,o+i*2,none⟩=some (.string (zb x.1))∧w0.cell? ⟨b,o+i*2+1,none⟩=some (.string (zb x.2))):=hl;have af:Hid (ZC w0):=hT;have HW:Hid (zu w0 r q t w):=h;have aw:=h.lt.1;have ax:=h.lt.2;clear HC hl hT h hn hR
 go_enter Tryz.func109,Tryz.ntmps109
 go_wp2_with fail
 go_loopw [10] (fun i wr=>∃(k:Nat) (D:Option Nat) (s:List UInt8),k≤n∧i=.int .i64 k∧zP r q w D wr∧rowO (l.map parO) k=some s∧zu w0 r D (t++s) wr) (fun i _=>n-(intOf i).toNat)
 case atStart=>exact ⟨0,q,[],Nat.zero_le _,rfl,zP.refl _ _ _,rfl,by rw [List.append_nil];exact HW.out⟩
 case round =>
  obtain ⟨k,D,s,hk,rfl,ad,G,z⟩:=hrel
  by_cases hlt:k<n
  ·obtain ⟨x,hx⟩:∃x,l[k]?=some x:=⟨l[k]'(by rw [←HN.out];exact hlt),List.getElem?_eq_getElem (by rw [←HN.out];exact hlt)⟩
   obtain ⟨b,o,rfl,ah,an,ak,m0,m1⟩:=ag.out k x hx;have n0:=(z.env.cell (p:=⟨b,o+k*2,none⟩) ah).trans m0;have n1:=(z.env.cell (p:=⟨b,o+k*2+1,none⟩) ah).trans m1;clear m0 m1;have al:(k:Int)<(n:Int):=by omega
   obtain ⟨H,I⟩:∃H,H=wr.alloc (.cells #[.string (zb x.1),.string (zb x.2)] 117):=⟨_,rfl⟩;have p2:H.heap[wr.heap.size]?=some (.cells #[.string (zb x.1),.string (zb x.2)] 117 (0,0)):=by rw [I];exact World.alloc_heap_new wr _
   have ar:H.heap.size=wr.heap.size+1:=by rw [I];simp
   have J:Hid (zP r q w D H):=show zP _ _ _ _ _ by rw [I];exact ad.alloc _
   have Z:Hid (zu w0 r D (t++s) H):=show zu _ _ _ _ _ by rw [I];exact z.alloc _
   have ap:=z.lt.1;have aj:=z.lt.2
   have A:∀W:World,W.heap[wr.heap.size]?=H.heap[wr.heap.size]?→W.cell? ⟨wr.heap.size,0,none⟩=some (.string (zb x.1))∧W.cell? ⟨wr.heap.size,1,none⟩=some (.string (zb x.2)):=fun W hW=>by
    rw [p2] at hW;refine ⟨?_,?_⟩ <;> (simp only [World.cell?,hW];rfl)
   have Q:((l.map parO)[k]?).getD none=parO x:=by rw [List.getElem?_map,hx];rfl
   have ab:Hid (parO x=none→R=none):=fun h9=>by rw [HR.out];exact U4 _ hlt (by rw [Q,h9])
   have aa:Hid (∀u,parO x=some u→rowO (l.map parO) (k+1)=some (s++((if k=0 then [] else [44,32])++u))):=fun u h9=>by
    rw [rowO,G,Q,h9];rfl
   have V:Hid (∀D t1 w1,zu w0 r D t1 w1→zP r q w D w1→Calls Tryz.prog 110 #[.pointer (some ⟨r,0,none⟩),.agg #[.string (zb x.1),.string (zb x.2)]] w1 (zk w0 r D t1 w1 (parO x))):=fun D t1 w1 h1 _=>zaV w0 r D t1 x.1 x.2 w1 af.out h1 an ak
   have L:Hid (∀W:World,W.heap[wr.heap.size]?=H.heap[wr.heap.size]?→W.cell? ⟨wr.heap.size,0,none⟩=some (.string (zb x.1))∧W.cell? ⟨wr.heap.size,1,none⟩=some (.string (zb x.2))):=A;have au:=I.symm;clear A Q ad z G ag af HW I p2 an ak;generalize parO x=X at *;obtain ⟨xa,xb⟩:=x;simp only at *;rcases Nat.eq_zero_or_pos k with am | am
   ·subst am
    rw [Nat.zero_mul,Nat.add_zero] at n0 n1;obtain ⟨c0,c1⟩:=L.out H rfl;have c:=V.out D (t++s) H Z.out J.out;go_wp2_with fail
    refine c.mono ?_;clear c;rintro e w3 ⟨q3,y,hp⟩;cases X with
    | none=>subst hp;obtain rfl:=ab.out rfl;exact ⟨rfl,q3,J.out.trans y,rfl⟩
    | some u =>
     obtain ⟨rfl,N⟩:=hp;have O:Hid (∃(k':Nat) (Y:Option Nat) (U:List UInt8),k'=1∧zP r q w Y w3∧rowO (l.map parO) k'=some U∧zu w0 r Y (t++U) w3):=⟨1,q3,_,rfl,J.out.trans y,aa.out u rfl,by rw [if_pos trivial,List.nil_append,←List.append_assoc];exact N⟩
     clear y N aa ab J Z V L c0 c1;go_wp2
     obtain ⟨k',Y,U,rfl,h1,h2,h3⟩:=O.out;exact ⟨⟨1,Y,U,by omega,by go_num,h1,h2,h3⟩,by simp [intOf];omega⟩
   ·have av:(0:Int)<(k:Int):=by omega
    obtain ⟨c0,c1⟩:=L.out H rfl;have cp:=zt w0 r D (t++s) [44,32] H Z.out (by simp)
    go_wp2_with fail
    refine cp.mono ?_;clear cp c0 c1;rintro e w3 ⟨q3,y,rfl,N⟩;have ay:=y.size;have T:w3.heap[wr.heap.size]?=H.heap[wr.heap.size]?:=y.block _ (by omega) (by omega) (fun e=>by have:=aj _ e;omega)
    obtain ⟨c0,c1⟩:=L.out w3 T;have ae:Hid (zP r q w q3 w3):=J.out.trans y;have c:=V.out q3 (t++s++[44,32]) w3 N ae.out;clear y N T;go_wp2_with fail
    refine c.mono ?_;clear c;rintro e w4 ⟨q4,K,hp⟩;cases X with
    | none=>subst hp;obtain rfl:=ab.out rfl;exact ⟨rfl,q4,ae.out.trans K,rfl⟩
    | some u =>
     obtain ⟨rfl,ai⟩:=hp;have O:Hid (∃(k':Nat) (Y:Option Nat) (U:List UInt8),k'=k+1∧zP r q w Y w4∧rowO (l.map parO) k'=some U∧zu w0 r Y (t++U) w4):=⟨k+1,q4,_,rfl,ae.out.trans K,aa.out u rfl,by rw [if_neg (by omega),←List.append_assoc,←List.append_assoc];exact ai⟩
     clear K ai aa ab J ae Z V L c0 c1;go_wp2
     obtain ⟨k',Y,U,rfl,h1,h2,h3⟩:=O.out;exact ⟨⟨k+1,Y,U,by omega,by go_num,h1,h2,h3⟩,by simp [intOf];omega⟩
  ·have ao:k=n:=by omega
   have al:¬(k:Int)<(n:Int):=by omega
   have HP:Hid (zk w0 r q t w R (.returned (.tuple #[])) wr):=show zk _ _ _ _ _ _ _ _ by
    rw [HR.out,←ao,G];exact ⟨D,ad,rfl,z⟩
   clear ad z G ag af HW;go_wp2
   exact bodyPost_ret (v:=.tuple #[]) (by simp [results,Tryz.results109,go_sem]) rfl HP.out
def recO (s:List UInt8) (l:List (List UInt8 × List UInt8)):Option (List UInt8):=if 0<l.length then zc (some [114,101,99,111,114,100,32]) (zc (tokO 1 0 s) (zc (some [32,123,32]) (zc (rowO (l.map parO) l.length) (some [32,125,10])))) else none
abbrev rzO (s:List UInt8) (base:Option Addr) (m cap:Nat) (line:Int):Obj:=.cells #[.string (zb s),.slice base m cap,.int .i64 line] 74
abbrev rzV (s:List UInt8) (base:Option Addr) (m cap:Nat) (line:Int):Value:=.agg #[.string (zb s),.slice base m cap,.int .i64 line]
theorem Xh {w:World} {N:Nat} {s:List UInt8} {base:Option Addr} {m cap:Nat} {line:Int} (p:w.heap[N]?=some (rzO s base m cap line)):w.cell? ⟨N,0,none⟩=some (.string (zb s))∧w.cell? ⟨N,1,none⟩=some (.slice base m cap)∧w.cell? ⟨N,2,none⟩=some (.int .i64 line):=by
 refine ⟨?_,?_,?_⟩ <;> (simp only [World.cell?,p];rfl)
theorem QR (w0:World) (hT:ZC w0) (s:List UInt8) (l:List (List UInt8 × List UInt8)) (base:Option Addr) (m cap r:Nat) (line:Int) (q:Option Nat) (t:List UInt8) (w:World) (h:zu w0 r q t w) (hs:s.length≤100000000) (hm:m=l.length) (hc:l.length≤cap) (hmx:cap≤maxLen) (hl:∀i x,l[i]?=some x→∃b o,base=some ⟨b,o,none⟩∧b<w0.heap.size∧x.1.length≤100000000∧x.2.length≤100000000∧w0.cell? ⟨b,o+i*2,none⟩=some (.string (zb x.1))∧w0.cell? ⟨b,o+i*2+1,none⟩=some (.string (zb x.2))) :
  Calls Tryz.prog 70 #[.pointer (some ⟨r,0,none⟩),rzV s base m cap line] w (zk w0 r q t w (recO s l)):=by
 obtain ⟨R,J⟩:∃R,R=recO s l:=⟨_,rfl⟩;rw [←J];have ap:Hid (∀(q:Option Nat) (t:List UInt8) (w:World),zu w0 r q t w→Calls Tryz.prog 82 #[.pointer (some ⟨r,0,none⟩),.string (zb s)] w (zk w0 r q t w (tokO 1 0 s))):=fun q t w h=>ym w0 r q t s w hT h hs
 have ag:Hid (∀(q:Option Nat) (t:List UInt8) (w:World),zu w0 r q t w→Calls Tryz.prog 109 #[.pointer (some ⟨r,0,none⟩),.slice base m cap,.func (.func 110) #[.pointer (some ⟨r,0,none⟩)] #[]] w (zk w0 r q t w (rowO (l.map parO) l.length))):=fun q t w h=>by rw [hm];exact XF w0 l base cap r q t w h hc hmx hl hT
 have av:∀(fn:Fn) (first cap:Array Value) (w:World),(Instr.makeFunc fn first cap).run Tryz.prog w=.ok (.func fn first cap) w:=fun _ _ _ _=>rfl
 obtain ⟨w1,D⟩:∃w1,w1=w.alloc (rzO s base m cap line):=⟨_,rfl⟩;have T:Below w.heap.size w w1:=by rw [D];exact (Below.refl _ w).alloc (Nat.le_refl _) _
 have p1:w1.heap[w.heap.size]?=some (rzO s base m cap line):=by rw [D];exact World.alloc_heap_new w _
 have aq:w1.heap.size=w.heap.size+1:=by rw [D];simp
 have ai:=h.below T;have V:Hid (zp r q w w1 q w1):=zp.start h T;have Y:Hid (R=if 0<m then zc (some [114,101,99,111,114,100,32]) (zc (tokO 1 0 s) (zc (some [32,123,32]) (zc (rowO (l.map parO) l.length) (some [32,125,10])))) else none):=show _=_ by rw [J,hm];rfl
 have am:Hid (zu w0 r q t w1):=ai;have z:Hid (w1.heap[w.heap.size]?=some (rzO s base m cap line)):=p1;have ar:=D.symm;obtain ⟨G,c1,c2⟩:=Xh p1;generalize tokO 1 0 s=X0 at *;generalize rowO (l.map parO) l.length=X1 at *;clear J ai p1 D T h hT hl hm hc hmx;have J:=Y.out;clear Y
 by_cases hm0:0<m
 ·rw [if_pos hm0] at J
  have Y:Hid (R=zc (some [114,101,99,111,114,100,32]) (zc X0 (zc (some [32,123,32]) (zc X1 (some [32,125,10]))))):=J;clear J;have au:(0:Int)<(m:Int):=by omega
  have ca:=zX true w1
  go_enter Tryz.func70,Tryz.ntmps70
  go_wp2_with fail
  refine ca.mono ?_;clear ca;rintro e wa ⟨hh,rfl⟩;obtain rfl:=hh.symm;simp only [YW];have y:=zt w0 r q (t) [114,101,99,111,114,100,32] w1 am.out (by simp)
  go_wp2_with fail
  refine y.mono ?_;clear y G c1 c2;rintro e w2 ⟨q2,O,rfl,ae⟩;have K:Hid (zp r q w w1 q2 w2):=V.out.step O;have Z:Hid (zu w0 r q2 (t++[114,101,99,111,114,100,32]) w2):=ae;clear O ae;obtain ⟨G,c1,c2⟩:=Xh ((K.out.block _ (Nat.le_refl _) (by omega)).trans z.out)
  have y:=ap.out q2 (t++[114,101,99,111,114,100,32]) w2 Z.out;go_wp2_with fail
  refine y.mono ?_;clear y G c1 c2;rintro e w3 ⟨q3,H,al⟩;cases X0 with
  | none=>subst al;obtain rfl:R=none:=Y.out;exact ⟨rfl,q3,(K.out.step H).unto,rfl⟩
  | some u0 =>
  obtain ⟨rfl,af⟩:=al;have Q:Hid (zp r q w w1 q3 w3):=K.out.step H;have aa:Hid (zu w0 r q3 (t++[114,101,99,111,114,100,32]++u0) w3):=af;clear H af;obtain ⟨G,c1,c2⟩:=Xh ((Q.out.block _ (Nat.le_refl _) (by omega)).trans z.out)
  have y:=zt w0 r q3 (t++[114,101,99,111,114,100,32]++u0) [32,123,32] w3 aa.out (by simp)
  go_wp2_with fail
  refine y.mono ?_;clear y G c1 c2;rintro e w4 ⟨q4,N,rfl,ak⟩;have I:Hid (zp r q w w1 q4 w4):=Q.out.step N;have aj:Hid (zu w0 r q4 (t++[114,101,99,111,114,100,32]++u0++[32,123,32]) w4):=ak;clear N ak;obtain ⟨G,c1,c2⟩:=Xh ((I.out.block _ (Nat.le_refl _) (by omega)).trans z.out)
  have y:=ag.out q4 (t++[114,101,99,111,114,100,32]++u0++[32,123,32]) w4 aj.out;go_wp2_with fail
  refine y.mono ?_;clear y G c1 c2;rintro e w5 ⟨q5,A,ah⟩;cases X1 with
  | none=>subst ah;obtain rfl:R=none:=Y.out;exact ⟨rfl,q5,(I.out.step A).unto,rfl⟩
  | some u1 =>
  obtain ⟨rfl,ab⟩:=ah;have W:Hid (zp r q w w1 q5 w5):=I.out.step A;have ao:Hid (zu w0 r q5 (t++[114,101,99,111,114,100,32]++u0++[32,123,32]++u1) w5):=ab;clear A ab;obtain ⟨G,c1,c2⟩:=Xh ((W.out.block _ (Nat.le_refl _) (by omega)).trans z.out)
  have y:=zt w0 r q5 (t++[114,101,99,111,114,100,32]++u0++[32,123,32]++u1) [32,125,10] w5 ao.out (by simp)
  go_wp2_with fail
  refine y.mono ?_;clear y G c1 c2;rintro e w6 ⟨q6,L,rfl,ad⟩;have U:Hid (zp r q w w1 q6 w6):=W.out.step L;have an:Hid (zu w0 r q6 (t++[114,101,99,111,114,100,32]++u0++[32,123,32]++u1++[32,125,10]) w6):=ad;clear L ad;obtain ⟨G,c1,c2⟩:=Xh ((U.out.block _ (Nat.le_refl _) (by omega)).trans z.out)
  obtain rfl:R=some ([114,101,99,111,114,100,32]++(u0++([32,123,32]++(u1++([32,125,10]))))):=Y.out;have HP:Hid (zk w0 r q t w (some ([114,101,99,111,114,100,32]++(u0++([32,123,32]++(u1++([32,125,10])))))) (.returned (.tuple #[])) w6):=⟨q6,U.out.unto,rfl,by have:=an.out;simpa only [List.append_assoc] using this⟩
  clear V am K Z Q aa I aj W ao U an G c1 c2 Y z ap ag;go_wp2
  exact bodyPost_ret (v:=.tuple #[]) (by simp [results,Tryz.results70,go_sem]) rfl HP.out
 ·rw [if_neg hm0] at J
  subst J;obtain rfl:m=0:=by omega
  have ca:=zX false w1
  go_enter Tryz.func70,Tryz.ntmps70
  go_wp2_with fail
  refine ca.mono ?_;clear ca;rintro e wa ⟨hh,rfl⟩;obtain rfl:=hh.symm;exact ⟨rfl,q,V.out.unto,rfl⟩
def Zk {α:Type} (P:α→List Value→Prop) (sz B:Nat) (w:World) (l:List α) (base:Option Addr) (m cap:Nat):Prop :=
 m=l.length∧l.length≤cap∧cap≤maxLen∧∀i x,l[i]?=some x→∃b o c,base=some ⟨b,o,none⟩∧b<B∧b<w.heap.size∧c.length=sz∧P x c∧∀j u,c[j]?=some u→w.cell? ⟨b,o+i*sz+j,none⟩=some u
theorem Zk.kept {α:Type} {P P':α→List Value→Prop} {sz B:Nat} {w w':World} {l:List α} {base:Option Addr} {m cap:Nat} (h:Zk P sz B w l base m cap) (hb:Below B w w') (hP:∀x c,P x c→P' x c):Zk P' sz B w' l base m cap:=by
 obtain ⟨G,J,H,A⟩:=h;refine ⟨G,J,H,fun i x hx=>?_⟩
 obtain ⟨b,o,c,e,z,y,D,I,s⟩:=A i x hx;exact ⟨b,o,c,e,z,Nat.lt_of_lt_of_le y hb.size,D,hP x c I,fun j u hj=>by rw [World.cell?_of_block (hb.block b z)];exact s j u hj⟩
theorem Zk.wide {α:Type} {P P':α→List Value→Prop} {sz B B':Nat} {w:World} {l:List α} {base:Option Addr} {m cap:Nat} (h:Zk P sz B w l base m cap) (hB:B≤B') (hP:∀x c,P x c→P' x c):Zk P' sz B' w l base m cap:=by
 obtain ⟨D,I,G,z⟩:=h;refine ⟨D,I,G,fun i x hx=>?_⟩
 obtain ⟨b,o,c,e,J,y,A,H,s⟩:=z i x hx;exact ⟨b,o,c,e,Nat.lt_of_lt_of_le J hB,y,A,hP x c H,s⟩
inductive Sz where
 | mk (k:Int) (s:List UInt8) (es:List Ez) (body els:List Sz) (line:Int)
abbrev qI (B:Nat) (w:World) (x:Ez) (c:List Value):Prop:=Zs B w x (.agg c.toArray)
def ZN (B:Nat) (w:World):Nat→Sz→List Value→Prop
 | 0,_,_=>False
 | f+1,.mk k s es body els line,c=>∃be me ce bb mb cb bl ml cl,c=[.int .i64 k,.string (zb s),.slice be me ce,.slice bb mb cb,.slice bl ml cl,.int .i64 line]∧s.length≤100000000∧Zk (qI B w) 5 B w es be me ce∧Zk (ZN B w f) 6 B w body bb mb cb∧Zk (ZN B w f) 6 B w els bl ml cl
theorem ZN.kept {B:Nat} {w w':World} (hb:Below B w w'):∀(f:Nat) (x:Sz) (c:List Value),ZN B w f x c→ZN B w' f x c
 | 0,_,_,h=>h.elim
 | f+1,.mk k s es body els line,c,h=>by
  obtain ⟨A,z,K,D,L,Q,N,y,I,J,G,O,o,H⟩:=h;exact ⟨A,z,K,D,L,Q,N,y,I,J,G,O.kept hb fun x c h=>Zs.kept h hb,o.kept hb (ZN.kept hb f),H.kept hb (ZN.kept hb f)⟩
theorem ZN.wide {B B':Nat} {w:World} (hB:B≤B'):∀(f:Nat) (x:Sz) (c:List Value),ZN B w f x c→ZN B' w f x c
 | 0,_,_,h=>h.elim
 | f+1,.mk k s es body els line,c,h=>by
  obtain ⟨A,z,K,D,L,Q,N,y,I,J,G,O,o,H⟩:=h;exact ⟨A,z,K,D,L,Q,N,y,I,J,G,O.wide hB fun x c h=>Zs.wide h hB,o.wide hB (ZN.wide hB f),H.wide hB (ZN.wide hB f)⟩
abbrev PmZ (x:List UInt8 × List UInt8) (c:List Value):Prop:=c=[.string (zb x.1),.string (zb x.2)]∧x.1.length≤100000000∧x.2.length≤100000000
structure Rz where
 name:List UInt8
 fields:List (List UInt8 × List UInt8)
 line:Int
structure Fz where
 name:List UInt8
 params:List (List UInt8 × List UInt8)
 result:List UInt8
 body:List Sz
 line:Int
structure Pz where
 recs:List Rz
 funs:List Fz
def xX (B:Nat) (w:World) (x:Rz) (c:List Value):Prop:=∃b m cap,c=[.string (zb x.name),.slice b m cap,.int .i64 x.line]∧x.name.length≤100000000∧Zk PmZ 2 B w x.fields b m cap
def xY (B:Nat) (w:World) (f:Nat) (x:Fz) (c:List Value):Prop:=∃b m cap b2 m2 cap2,c=[.string (zb x.name),.slice b m cap,.string (zb x.result),.slice b2 m2 cap2,.int .i64 x.line]∧x.name.length≤100000000∧x.result.length≤100000000∧Zk PmZ 2 B w x.params b m cap∧Zk (ZN B w f) 6 B w x.body b2 m2 cap2
def Xi (B:Nat) (w:World) (f:Nat) (x:Pz) (v:Value):Prop:=∃b m cap b2 m2 cap2,v=.agg #[.slice b m cap,.slice b2 m2 cap2]∧Zk (xX B w) 3 B w x.recs b m cap∧Zk (xY B w f) 5 B w x.funs b2 m2 cap2
theorem xX.kept {B:Nat} {w w':World} (hb:Below B w w') (x:Rz) (c:List Value) (h:xX B w x c):xX B w' x c:=by
 obtain ⟨b,m,o,s,z,y⟩:=h;exact ⟨b,m,o,s,z,y.kept hb fun _ _ h=>h⟩
theorem xX.wide {B B':Nat} {w:World} (hB:B≤B') (x:Rz) (c:List Value) (h:xX B w x c):xX B' w x c:=by
 obtain ⟨b,m,o,s,z,y⟩:=h;exact ⟨b,m,o,s,z,y.wide hB fun _ _ h=>h⟩
theorem xY.kept {B:Nat} {w w':World} (hb:Below B w w') (f:Nat) (x:Fz) (c:List Value) (h:xY B w f x c):xY B w' f x c:=by
 obtain ⟨b,m,s,z,G,o,D,I,H,y,A⟩:=h;exact ⟨b,m,s,z,G,o,D,I,H,y.kept hb fun _ _ h=>h,A.kept hb (ZN.kept hb f)⟩
theorem xY.wide {B B':Nat} {w:World} (hB:B≤B') (f:Nat) (x:Fz) (c:List Value) (h:xY B w f x c):xY B' w f x c:=by
 obtain ⟨b,m,s,z,G,o,D,I,H,y,A⟩:=h;exact ⟨b,m,s,z,G,o,D,I,H,y.wide hB fun _ _ h=>h,A.wide hB (ZN.wide hB f)⟩
theorem Xi.kept {B:Nat} {w w':World} (hb:Below B w w') {f:Nat} {x:Pz} {v:Value} (h:Xi B w f x v):Xi B w' f x v:=by
 obtain ⟨b,m,s,y,A,o,z,G,D⟩:=h;exact ⟨b,m,s,y,A,o,z,G.kept hb (xX.kept hb),D.kept hb (xY.kept hb f)⟩
theorem Xi.wide {B B':Nat} {w:World} (hB:B≤B') {f:Nat} {x:Pz} {v:Value} (h:Xi B w f x v):Xi B' w f x v:=by
 obtain ⟨b,m,s,y,A,o,z,G,D⟩:=h;exact ⟨b,m,s,y,A,o,z,G.wide hB (xX.wide hB),D.wide hB (xY.wide hB f)⟩
def Yq (l:List (Option (List UInt8))):Nat→Option (List UInt8)
 | 0=>some []
 | i+1=>zc (Yq l i) ((l[i]?).getD none)
theorem U5 (l:List (Option (List UInt8))) {i:Nat} (h:Yq l i=none):∀k,Yq l (i+k)=none
 | 0=>h
 | k+1=>by
  show Yq l (i+k+1)=none
  rw [Yq,U5 l h k];rfl
theorem VA (l:List (Option (List UInt8))) {i m:Nat} (hi:i<m) (h:(l[i]?).getD none=none):Yq l m=none:=by
 have o:Yq l (i+1)=none:=by
  rw [Yq,h]
  cases Yq l i <;> rfl
 have:=U5 l o (m-(i+1))
 rwa [show i+1+(m-(i+1))=m by omega] at this
def U6:Ez→Int | .mk k _ _ _ _=>k
def zdC (x:Ez):Bool:=U6 x==4||U6 x==8||U6 x==9
def hasX (k:Int) (es:List Ez):Bool :=
 if k=1∨k=3∨k=4∨k=5∨k=7 then es.length==1
 else if k=2 then (match es with | [a,_]=>zdC a | _=>false)
 else if k=6 then decide (es.length≤1)
 else false
def xM (k:Int) (s:List UInt8) (es:List Ez) (mb ml:Nat):Bool :=
 hasX k es&&(k==1||s==[])&&(k==4||k==3||k==5||mb==0)&&(k==4||ml==0)
def blkO (f:Sz→Option (List UInt8)) (l:List Sz):Option (List UInt8):=zc (some [123,10]) (zc (Yq (l.map f) l.length) (some [125]))
def prS:Nat→Sz→Option (List UInt8)
 | 0,_=>none
 | d+1,.mk k s es body els _ =>
  if xM k s es body.length els.length=true then
   if k=1 then match es with
    | a::_=>zc (some [108,101,116,32]) (zc (tokO 1 0 s) (zc (some [32,61,32]) (zc (prE d a) (some [59,10]))))
    | _=>none
   else if k=2 then match es with
    | a::b::_=>zc (prE d a) (zc (some [32,61,32]) (zc (prE d b) (some [59,10])))
    | _=>none
   else if k=6 then match es with
    | []=>zc (some [114,101,116,117,114,110]) (some [59,10])
    | a::_=>zc (some [114,101,116,117,114,110]) (zc (some [32]) (zc (prE d a) (some [59,10])))
   else if k=7 then match es with
    | a::_=>zc (prE d a) (some [59,10])
    | _=>none
   else if k=4 then match es with
    | a::_=>zc (some [105,102,32]) (zc (prE d a) (zc (some [32]) (zc (blkO (prS d) body) (zc (some [32,101,108,115,101,32]) (zc (blkO (prS d) els) (some [10]))))))
    | _=>none
   else match es with
    | a::_=>zc (some (if k=5 then [119,104,105,108,101,32] else [105,102,32])) (zc (prE d a) (zc (some [32]) (zc (blkO (prS d) body) (some [10]))))
    | _=>none
  else none
def funO (x:Fz):Option (List UInt8):=zc (some [102,110,32]) (zc (tokO 1 0 x.name) (zc (some [40]) (zc (rowO (x.params.map parO) x.params.length) (zc (some [41]) (zc (if x.result=[] then some [] else zc (some [58,32]) (typeO x.result)) (zc (some [32]) (zc (blkO (prS 24) x.body) (some [10]))))))))
def QS (x:Pz):Option (List UInt8):=zc (Yq (x.recs.map fun r=>recO r.name r.fields) x.recs.length) (Yq (x.funs.map funO) x.funs.length)
end Go.Proofs.YtpejpbbdgblbeaaGreatDoor
