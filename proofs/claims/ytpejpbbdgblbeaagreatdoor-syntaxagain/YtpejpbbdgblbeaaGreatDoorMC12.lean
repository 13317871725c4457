import Derived.Test.YtpejpbbdgblbeaaGreatDoorMC9
import Derived.Test.YtpejpbbdgblbeaaGreatDoorMC10
import Derived.Test.YtpejpbbdgblbeaaGreatDoorSWExpr
import Derived.Test.YtpejpbbdgblbeaaGreatDoorMC13
namespace Go.Proofs.YtpejpbbdgblbeaaGreatDoor
open Go.RowKit Go.Shelf
set_option maxHeartbeats 16000000
set_option maxRecDepth 100000
def parO (p:List UInt8 × List UInt8):Option (List UInt8):=zc (tokO 1 0 p.1) (zc (some [58,32]) (typeO p.2))
theorem zb3 (w0:World) (r:Nat) (q:Option Nat) (t s u:List UInt8) (w:World) (hT:ZE w0) (h:zy w0 r q t w) (hs:s.length≤100000000) (hu:u.length≤100000000) :
  Calls Tryz.prog 110 #[.pointer (some ⟨r,0,none⟩),.agg #[.string (zb s),.string (zb u)]] w (zo w0 r q t w (parO (s,u))):=by
 obtain ⟨R,hR⟩:∃R,R=parO (s,u):=⟨_,rfl⟩;rw [←hR];obtain ⟨w1,y⟩:∃w1,w1=w.alloc (.cells #[.string (zb s),.string (zb u)] 117):=⟨_,rfl⟩;have I:Below w.heap.size w w1:=by rw [y];exact (Below.refl _ w).alloc (Nat.le_refl _) _
 have p1:w1.heap[w.heap.size]?=some (.cells #[.string (zb s),.string (zb u)] 117 (0,0)):=by rw [y];exact World.alloc_heap_new w _
 have ab:w1.heap.size=w.heap.size+1:=by rw [y];simp
 have L:=h.below I;have T:Hid (zr r q w w1 q w1):=zr.start h I
 have o:∀W:World,W.heap[w.heap.size]?=w1.heap[w.heap.size]?→W.cell? ⟨w.heap.size,0,none⟩=some (.string (zb s))∧W.cell? ⟨w.heap.size,1,none⟩=some (.string (zb u)):=fun W hW=>by
  rw [p1] at hW;refine ⟨?_,?_⟩ <;> (simp only [World.cell?,hW];rfl)
 have HC:Hid (∀W:World,W.heap[w.heap.size]?=w1.heap[w.heap.size]?→W.cell? ⟨w.heap.size,0,none⟩=some (.string (zb s))∧W.cell? ⟨w.heap.size,1,none⟩=some (.string (zb u))):=o;have U:Hid (ZE w0):=hT;obtain ⟨c0,c1⟩:=o w1 rfl;have cn:=yx w0 r q t s w1 hT L hs;have Z:R=zc (tokO 1 0 s) (zc (some [58,32]) (typeO u)):=hR;have HR:Hid (R=zc (tokO 1 0 s) (zc (some [58,32]) (typeO u))):=Z;have ad:=y.symm;clear y p1 I h L o hT hR Z;generalize tokO 1 0 s=X at *
 go_enter Tryz.func110,Tryz.ntmps110
 go_wp2_with fail
 refine cn.mono ?_;clear cn c0 c1;rintro e w2 ⟨q2,D,N⟩;have G:Hid (zr r q w w1 q2 w2):=T.out.step D;clear D;cases X with
 | none=>subst N;obtain rfl:R=none:=HR.out;exact ⟨rfl,q2,G.out.unto,rfl⟩
 | some a =>
  obtain ⟨rfl,O⟩:=N;have cp:=zx w0 r q2 (t++a) [58,32] w2 O (by simp)
  clear O;go_wp2_with fail
  refine cp.mono ?_;clear cp;rintro e w3 ⟨q3,z,rfl,aa⟩;have J:Hid (zr r q w w1 q3 w3):=G.out.step z;obtain ⟨c0,c1⟩:=HC.out w3 (J.out.block _ (Nat.le_refl _) (by omega))
  have ct:=qZ w0 r q3 (t++a++[58,32]) u w3 U.out aa hu;clear z aa;generalize typeO u=Y at *;go_wp2_with fail
  refine ct.mono ?_;clear ct c0 c1;rintro e w4 ⟨q4,A,V⟩;have H:Hid (zr r q w w1 q4 w4):=J.out.step A;clear A;cases Y with
  | none=>subst V;obtain rfl:R=none:=HR.out;exact ⟨rfl,q4,H.out.unto,rfl⟩
  | some b =>
   obtain ⟨rfl,Q⟩:=V;obtain rfl:R=some (a++([58,32]++b)):=HR.out;have HP:Hid (zo w0 r q t w (some (a++([58,32]++b))) (.returned (.tuple #[])) w4):=⟨q4,H.out.unto,rfl,by simpa only [List.append_assoc] using Q⟩
   clear Q T G J H HC HR U;go_wp2
   exact bodyPost_ret (v:=.tuple #[]) (by simp [results,Tryz.results110,go_sem]) rfl HP.out
theorem X9 (w0:World) (l:List (List UInt8 × List UInt8)) (base:Option Addr) (cap r:Nat) (q:Option Nat) (t:List UInt8) (w:World) (h:zy w0 r q t w) (hc:l.length≤cap) (hm:cap≤maxLen)
  (hl:∀i x,l[i]?=some x→∃b o,base=some ⟨b,o,none⟩∧b<w0.heap.size∧x.1.length≤100000000∧x.2.length≤100000000∧w0.cell? ⟨b,o+i*2,none⟩=some (.string (zb x.1))∧w0.cell? ⟨b,o+i*2+1,none⟩=some (.string (zb x.2)))
  (hT:ZE w0) :
  Calls Tryz.prog 109 #[.pointer (some ⟨r,0,none⟩),.slice base l.length cap,.func (.func 110) #[.pointer (some ⟨r,0,none⟩)] #[]] w (zo w0 r q t w (rowO (l.map parO) l.length)):=by
 obtain ⟨n,hn⟩:∃n,n=l.length:=⟨_,rfl⟩;rw [←hn] at hc ⊢;have ap:n≤9223372036854775807:=by unfold maxLen at hm;omega
 obtain ⟨R,hR⟩:∃R,R=rowO (l.map parO) n:=⟨_,rfl⟩;rw [←hR];have HR:Hid (R=rowO (l.map parO) n):=hR;have HN:Hid (n=l.length):=hn;have HC:=hl;have af:Hid (∀i x,l[i]?=some x→∃b o,base=some ⟨b,o,none⟩∧b<w0.heap.size∧x.1.length≤100000000∧x.2.length≤100000000∧w0.cell? ⟨b,o+i*2,none⟩=some (.string (zb x.1))∧w0.cell? ⟨b,o+i*2+1,none⟩=some (.string (zb x.2))):=hl;have ae:Hid (ZE w0):=hT;have HW:Hid (zy w0 r q t w):=h;have au:=h.lt.1;have ax:=h.lt.2;clear HC hl hT h hn hR
 go_enter Tryz.func109,Tryz.ntmps109
 go_wp2_with fail
 go_loopw [10] (fun i wr=>∃(k:Nat) (G:Option Nat) (s:List UInt8),k≤n∧i=.int .i64 k∧zT r q w G wr∧rowO (l.map parO) k=some s∧zy w0 r G (t++s) wr) (fun i _=>n-(intOf i).toNat)
 case atStart=>exact ⟨0,q,[],Nat.zero_le _,rfl,zT.refl _ _ _,rfl,by rw [List.append_nil];exact HW.out⟩
 case round =>
  obtain ⟨k,G,s,hk,rfl,aa,D,z⟩:=hrel
  by_cases hlt:k<n
  ·obtain ⟨x,hx⟩:∃x,l[k]?=some x:=⟨l[k]'(by rw [←HN.out];exact hlt),List.getElem?_eq_getElem (by rw [←HN.out];exact hlt)⟩
   obtain ⟨b,o,rfl,al,ak,am,m0,m1⟩:=af.out k x hx;have n0:=(z.env.cell (p:=⟨b,o+k*2,none⟩) al).trans m0;have n1:=(z.env.cell (p:=⟨b,o+k*2+1,none⟩) al).trans m1;clear m0 m1;have ai:(k:Int)<(n:Int):=by omega
   obtain ⟨I,H⟩:∃I,I=wr.alloc (.cells #[.string (zb x.1),.string (zb x.2)] 117):=⟨_,rfl⟩;have p2:I.heap[wr.heap.size]?=some (.cells #[.string (zb x.1),.string (zb x.2)] 117 (0,0)):=by rw [H];exact World.alloc_heap_new wr _
   have aq:I.heap.size=wr.heap.size+1:=by rw [H];simp
   have J:Hid (zT r q w G I):=show zT _ _ _ _ _ by rw [H];exact aa.alloc _
   have ab:Hid (zy w0 r G (t++s) I):=show zy _ _ _ _ _ by rw [H];exact z.alloc _
   have ar:=z.lt.1;have ag:=z.lt.2
   have A:∀W:World,W.heap[wr.heap.size]?=I.heap[wr.heap.size]?→W.cell? ⟨wr.heap.size,0,none⟩=some (.string (zb x.1))∧W.cell? ⟨wr.heap.size,1,none⟩=some (.string (zb x.2)):=fun W hW=>by
    rw [p2] at hW;refine ⟨?_,?_⟩ <;> (simp only [World.cell?,hW];rfl)
   have N:((l.map parO)[k]?).getD none=parO x:=by rw [List.getElem?_map,hx];rfl
   have Z:Hid (parO x=none→R=none):=fun h9=>by rw [HR.out];exact Qb _ hlt (by rw [N,h9])
   have Y:Hid (∀u,parO x=some u→rowO (l.map parO) (k+1)=some (s++((if k=0 then [] else [44,32])++u))):=fun u h9=>by
    rw [rowO,D,N,h9];rfl
   have ad:Hid (∀G t1 w1,zy w0 r G t1 w1→zT r q w G w1→Calls Tryz.prog 110 #[.pointer (some ⟨r,0,none⟩),.agg #[.string (zb x.1),.string (zb x.2)]] w1 (zo w0 r G t1 w1 (parO x))):=fun G t1 w1 h1 _=>zb3 w0 r G t1 x.1 x.2 w1 ae.out h1 ak am
   have U:Hid (∀W:World,W.heap[wr.heap.size]?=I.heap[wr.heap.size]?→W.cell? ⟨wr.heap.size,0,none⟩=some (.string (zb x.1))∧W.cell? ⟨wr.heap.size,1,none⟩=some (.string (zb x.2))):=A;have ao:=H.symm;clear A N aa z D af ae HW H p2 ak am;generalize parO x=X at *;obtain ⟨xa,xb⟩:=x;simp only at *;rcases Nat.eq_zero_or_pos k with aj | aj
   ·subst aj
    rw [Nat.zero_mul,Nat.add_zero] at n0 n1;obtain ⟨c0,c1⟩:=U.out I rfl;have c:=ad.out G (t++s) I ab.out J.out;go_wp2_with fail
    refine c.mono ?_;clear c;rintro e w3 ⟨q3,y,hp⟩;cases X with
    | none=>subst hp;obtain rfl:=Z.out rfl;exact ⟨rfl,q3,J.out.trans y,rfl⟩
    | some u =>
     obtain ⟨rfl,L⟩:=hp;have T:Hid (∃(k':Nat) (q':Option Nat) (s':List UInt8),k'=1∧zT r q w q' w3∧rowO (l.map parO) k'=some s'∧zy w0 r q' (t++s') w3):=⟨1,q3,_,rfl,J.out.trans y,Y.out u rfl,by rw [if_pos trivial,List.nil_append,←List.append_assoc];exact L⟩
     clear y L Y Z J ab ad U c0 c1;go_wp2
     obtain ⟨k',q',s',rfl,h1,h2,h3⟩:=T.out;exact ⟨⟨1,q',s',by omega,by go_num,h1,h2,h3⟩,by simp [intOf];omega⟩
   ·have aw:(0:Int)<(k:Int):=by omega
    obtain ⟨c0,c1⟩:=U.out I rfl;have cp:=zx w0 r G (t++s) [44,32] I ab.out (by simp)
    go_wp2_with fail
    refine cp.mono ?_;clear cp c0 c1;rintro e w3 ⟨q3,y,rfl,L⟩;have av:=y.size;have Q:w3.heap[wr.heap.size]?=I.heap[wr.heap.size]?:=y.block _ (by omega) (by omega) (fun e=>by have:=ag _ e;omega)
    obtain ⟨c0,c1⟩:=U.out w3 Q;have V:Hid (zT r q w q3 w3):=J.out.trans y;have c:=ad.out q3 (t++s++[44,32]) w3 L V.out;clear y L Q;go_wp2_with fail
    refine c.mono ?_;clear c;rintro e w4 ⟨q4,O,hp⟩;cases X with
    | none=>subst hp;obtain rfl:=Z.out rfl;exact ⟨rfl,q4,V.out.trans O,rfl⟩
    | some u =>
     obtain ⟨rfl,ah⟩:=hp;have T:Hid (∃(k':Nat) (q':Option Nat) (s':List UInt8),k'=k+1∧zT r q w q' w4∧rowO (l.map parO) k'=some s'∧zy w0 r q' (t++s') w4):=⟨k+1,q4,_,rfl,V.out.trans O,Y.out u rfl,by rw [if_neg (by omega),←List.append_assoc,←List.append_assoc];exact ah⟩
     clear O ah Y Z J V ab ad U c0 c1;go_wp2
     obtain ⟨k',q',s',rfl,h1,h2,h3⟩:=T.out;exact ⟨⟨k+1,q',s',by omega,by go_num,h1,h2,h3⟩,by simp [intOf];omega⟩
  ·have an:k=n:=by omega
   have ai:¬(k:Int)<(n:Int):=by omega
   have HP:Hid (zo w0 r q t w R (.returned (.tuple #[])) wr):=show zo _ _ _ _ _ _ _ _ by
    rw [HR.out,←an,D];exact ⟨G,aa,rfl,z⟩
   clear aa z D af ae HW;go_wp2
   exact bodyPost_ret (v:=.tuple #[]) (by simp [results,Tryz.results109,go_sem]) rfl HP.out
def recO (s:List UInt8) (l:List (List UInt8 × List UInt8)):Option (List UInt8):=if 0<l.length then zc (some [114,101,99,111,114,100,32]) (zc (tokO 1 0 s) (zc (some [32,123,32]) (zc (rowO (l.map parO) l.length) (some [32,125,10])))) else none
abbrev rzO (s:List UInt8) (base:Option Addr) (m cap:Nat) (line:Int):Obj:=.cells #[.string (zb s),.slice base m cap,.int .i64 line] 74
abbrev rzV (s:List UInt8) (base:Option Addr) (m cap:Nat) (line:Int):Value:=.agg #[.string (zb s),.slice base m cap,.int .i64 line]
theorem XE {w:World} {N:Nat} {s:List UInt8} {base:Option Addr} {m cap:Nat} {line:Int} (p:w.heap[N]?=some (rzO s base m cap line)):w.cell? ⟨N,0,none⟩=some (.string (zb s))∧w.cell? ⟨N,1,none⟩=some (.slice base m cap)∧w.cell? ⟨N,2,none⟩=some (.int .i64 line):=by
 refine ⟨?_,?_,?_⟩ <;> (simp only [World.cell?,p];rfl)
theorem zaZ (w0:World) (hT:ZE w0) (s:List UInt8) (l:List (List UInt8 × List UInt8)) (base:Option Addr) (m cap r:Nat) (line:Int) (q:Option Nat) (t:List UInt8) (w:World) (h:zy w0 r q t w) (hs:s.length≤100000000) (hm:m=l.length) (hc:l.length≤cap) (hmx:cap≤maxLen) (hl:∀i x,l[i]?=some x→∃b o,base=some ⟨b,o,none⟩∧b<w0.heap.size∧x.1.length≤100000000∧x.2.length≤100000000∧w0.cell? ⟨b,o+i*2,none⟩=some (.string (zb x.1))∧w0.cell? ⟨b,o+i*2+1,none⟩=some (.string (zb x.2))) :
  Calls Tryz.prog 70 #[.pointer (some ⟨r,0,none⟩),rzV s base m cap line] w (zo w0 r q t w (recO s l)):=by
 obtain ⟨R,I⟩:∃R,R=recO s l:=⟨_,rfl⟩;rw [←I];have aq:Hid (∀(q:Option Nat) (t:List UInt8) (w:World),zy w0 r q t w→Calls Tryz.prog 82 #[.pointer (some ⟨r,0,none⟩),.string (zb s)] w (zo w0 r q t w (tokO 1 0 s))):=fun q t w h=>yx w0 r q t s w hT h hs
 have aj:Hid (∀(q:Option Nat) (t:List UInt8) (w:World),zy w0 r q t w→Calls Tryz.prog 109 #[.pointer (some ⟨r,0,none⟩),.slice base m cap,.func (.func 110) #[.pointer (some ⟨r,0,none⟩)] #[]] w (zo w0 r q t w (rowO (l.map parO) l.length))):=fun q t w h=>by rw [hm];exact X9 w0 l base cap r q t w h hc hmx hl hT
 have av:∀(fn:Fn) (first cap:Array Value) (w:World),(Instr.makeFunc fn first cap).run Tryz.prog w=.ok (.func fn first cap) w:=fun _ _ _ _=>rfl
 obtain ⟨w1,G⟩:∃w1,w1=w.alloc (rzO s base m cap line):=⟨_,rfl⟩;have Y:Below w.heap.size w w1:=by rw [G];exact (Below.refl _ w).alloc (Nat.le_refl _) _
 have p1:w1.heap[w.heap.size]?=some (rzO s base m cap line):=by rw [G];exact World.alloc_heap_new w _
 have ar:w1.heap.size=w.heap.size+1:=by rw [G];simp
 have ab:=h.below Y;have T:Hid (zr r q w w1 q w1):=zr.start h Y;have V:Hid (R=if 0<m then zc (some [114,101,99,111,114,100,32]) (zc (tokO 1 0 s) (zc (some [32,123,32]) (zc (rowO (l.map parO) l.length) (some [32,125,10])))) else none):=show _=_ by rw [I,hm];rfl
 have ap:Hid (zy w0 r q t w1):=ab;have z:Hid (w1.heap[w.heap.size]?=some (rzO s base m cap line)):=p1;have au:=G.symm;obtain ⟨H,c1,c2⟩:=XE p1;generalize tokO 1 0 s=X0 at *;generalize rowO (l.map parO) l.length=X1 at *;clear I ab p1 G Y h hT hl hm hc hmx;have I:=V.out;clear V
 by_cases hm0:0<m
 ·rw [if_pos hm0] at I
  have V:Hid (R=zc (some [114,101,99,111,114,100,32]) (zc X0 (zc (some [32,123,32]) (zc X1 (some [32,125,10]))))):=I;clear I;have aw:(0:Int)<(m:Int):=by omega
  have ca:=z6 true w1
  go_enter Tryz.func70,Tryz.ntmps70
  go_wp2_with fail
  refine ca.mono ?_;clear ca;rintro e wa ⟨hh,rfl⟩;obtain rfl:=hh.symm;simp only [xd];have y:=zx w0 r q (t) [114,101,99,111,114,100,32] w1 ap.out (by simp)
  go_wp2_with fail
  refine y.mono ?_;clear y H c1 c2;rintro e w2 ⟨q2,Q,rfl,ad⟩;have J:Hid (zr r q w w1 q2 w2):=T.out.step Q;have ak:Hid (zy w0 r q2 (t++[114,101,99,111,114,100,32]) w2):=ad;clear Q ad;obtain ⟨H,c1,c2⟩:=XE ((J.out.block _ (Nat.le_refl _) (by omega)).trans z.out)
  have y:=aq.out q2 (t++[114,101,99,111,114,100,32]) w2 ak.out;go_wp2_with fail
  refine y.mono ?_;clear y H c1 c2;rintro e w3 ⟨q3,A,ah⟩;cases X0 with
  | none=>subst ah;obtain rfl:R=none:=V.out;exact ⟨rfl,q3,(J.out.step A).unto,rfl⟩
  | some u0 =>
  obtain ⟨rfl,al⟩:=ah;have Z:Hid (zr r q w w1 q3 w3):=J.out.step A;have an:Hid (zy w0 r q3 (t++[114,101,99,111,114,100,32]++u0) w3):=al;clear A al;obtain ⟨H,c1,c2⟩:=XE ((Z.out.block _ (Nat.le_refl _) (by omega)).trans z.out)
  have y:=zx w0 r q3 (t++[114,101,99,111,114,100,32]++u0) [32,123,32] w3 an.out (by simp)
  go_wp2_with fail
  refine y.mono ?_;clear y H c1 c2;rintro e w4 ⟨q4,N,rfl,ag⟩;have L:Hid (zr r q w w1 q4 w4):=Z.out.step N;have ai:Hid (zy w0 r q4 (t++[114,101,99,111,114,100,32]++u0++[32,123,32]) w4):=ag;clear N ag;obtain ⟨H,c1,c2⟩:=XE ((L.out.block _ (Nat.le_refl _) (by omega)).trans z.out)
  have y:=aj.out q4 (t++[114,101,99,111,114,100,32]++u0++[32,123,32]) w4 ai.out;go_wp2_with fail
  refine y.mono ?_;clear y H c1 c2;rintro e w5 ⟨q5,D,am⟩;cases X1 with
  | none=>subst am;obtain rfl:R=none:=V.out;exact ⟨rfl,q5,(L.out.step D).unto,rfl⟩
  | some u1 =>
  obtain ⟨rfl,ao⟩:=am;have U:Hid (zr r q w w1 q5 w5):=L.out.step D;have aa:Hid (zy w0 r q5 (t++[114,101,99,111,114,100,32]++u0++[32,123,32]++u1) w5):=ao;clear D ao;obtain ⟨H,c1,c2⟩:=XE ((U.out.block _ (Nat.le_refl _) (by omega)).trans z.out)
  have y:=zx w0 r q5 (t++[114,101,99,111,114,100,32]++u0++[32,123,32]++u1) [32,125,10] w5 aa.out (by simp)
  go_wp2_with fail
  refine y.mono ?_;clear y H c1 c2;rintro e w6 ⟨q6,O,rfl,ae⟩;have W:Hid (zr r q w w1 q6 w6):=U.out.step O;have af:Hid (zy w0 r q6 (t++[114,101,99,111,114,100,32]++u0++[32,123,32]++u1++[32,125,10]) w6):=ae;clear O ae;obtain ⟨H,c1,c2⟩:=XE ((W.out.block _ (Nat.le_refl _) (by omega)).trans z.out)
  obtain rfl:R=some ([114,101,99,111,114,100,32]++(u0++([32,123,32]++(u1++([32,125,10]))))):=V.out;have HP:Hid (zo w0 r q t w (some ([114,101,99,111,114,100,32]++(u0++([32,123,32]++(u1++([32,125,10])))))) (.returned (.tuple #[])) w6):=⟨q6,W.out.unto,rfl,by have:=af.out;simpa only [List.append_assoc] using this⟩
  clear T ap J ak Z an L ai U aa W af H c1 c2 V z aq aj;go_wp2
  exact bodyPost_ret (v:=.tuple #[]) (by simp [results,Tryz.results70,go_sem]) rfl HP.out
 ·rw [if_neg hm0] at I
  subst I;obtain rfl:m=0:=by omega
  have ca:=z6 false w1
  go_enter Tryz.func70,Tryz.ntmps70
  go_wp2_with fail
  refine ca.mono ?_;clear ca;rintro e wa ⟨hh,rfl⟩;obtain rfl:=hh.symm;exact ⟨rfl,q,T.out.unto,rfl⟩
def Zr {α:Type} (P:α→List Value→Prop) (sz B:Nat) (w:World) (l:List α) (base:Option Addr) (m cap:Nat):Prop :=
 m=l.length∧l.length≤cap∧cap≤maxLen∧∀i x,l[i]?=some x→∃b o c,base=some ⟨b,o,none⟩∧b<B∧b<w.heap.size∧c.length=sz∧P x c∧∀j u,c[j]?=some u→w.cell? ⟨b,o+i*sz+j,none⟩=some u
theorem Zr.kept {α:Type} {P P':α→List Value→Prop} {sz B:Nat} {w w':World} {l:List α} {base:Option Addr} {m cap:Nat} (h:Zr P sz B w l base m cap) (hb:Below B w w') (hP:∀x c,P x c→P' x c):Zr P' sz B w' l base m cap:=by
 obtain ⟨J,D,G,H⟩:=h;refine ⟨J,D,G,fun i x hx=>?_⟩
 obtain ⟨b,o,c,e,A,z,L,I,y⟩:=H i x hx;exact ⟨b,o,c,e,A,Nat.lt_of_lt_of_le z hb.size,L,hP x c I,fun j u hj=>by rw [World.cell?_of_block (hb.block b A)];exact y j u hj⟩
theorem Zr.wide {α:Type} {P P':α→List Value→Prop} {sz B B':Nat} {w:World} {l:List α} {base:Option Addr} {m cap:Nat} (h:Zr P sz B w l base m cap) (hB:B≤B') (hP:∀x c,P x c→P' x c):Zr P' sz B' w l base m cap:=by
 obtain ⟨J,A,D,G⟩:=h;refine ⟨J,A,D,fun i x hx=>?_⟩
 obtain ⟨b,o,c,e,I,z,L,H,y⟩:=G i x hx;exact ⟨b,o,c,e,Nat.lt_of_lt_of_le I hB,z,L,hP x c H,y⟩
inductive Sz where
 | mk (k:Int) (s:List UInt8) (es:List Ez) (body els:List Sz) (line:Int)
abbrev QR (B:Nat) (w:World) (x:Ez) (c:List Value):Prop:=Zy B w x (.agg c.toArray)
def ZW (B:Nat) (w:World):Nat→Sz→List Value→Prop
 | 0,_,_=>False
 | f+1,.mk k s es body els line,c=>∃be me ce bb mb cb bl ml cl,c=[.int .i64 k,.string (zb s),.slice be me ce,.slice bb mb cb,.slice bl ml cl,.int .i64 line]∧s.length≤100000000∧Zr (QR B w) 5 B w es be me ce∧Zr (ZW B w f) 6 B w body bb mb cb∧Zr (ZW B w f) 6 B w els bl ml cl
theorem ZW.kept {B:Nat} {w w':World} (hb:Below B w w'):∀(f:Nat) (x:Sz) (c:List Value),ZW B w f x c→ZW B w' f x c
 | 0,_,_,h=>h.elim
 | f+1,.mk k s es body els line,c,h=>by
  obtain ⟨Q,I,N,H,L,D,bl,A,O,J,o,z,G,y⟩:=h;exact ⟨Q,I,N,H,L,D,bl,A,O,J,o,z.kept hb fun x c h=>Zy.kept h hb,G.kept hb (ZW.kept hb f),y.kept hb (ZW.kept hb f)⟩
theorem ZW.wide {B B':Nat} {w:World} (hB:B≤B'):∀(f:Nat) (x:Sz) (c:List Value),ZW B w f x c→ZW B' w f x c
 | 0,_,_,h=>h.elim
 | f+1,.mk k s es body els line,c,h=>by
  obtain ⟨Q,I,N,H,L,D,bl,A,O,J,o,z,G,y⟩:=h;exact ⟨Q,I,N,H,L,D,bl,A,O,J,o,z.wide hB fun x c h=>Zy.wide h hB,G.wide hB (ZW.wide hB f),y.wide hB (ZW.wide hB f)⟩
abbrev PmZ (x:List UInt8 × List UInt8) (c:List Value):Prop:=c=[.string (zb x.1),.string (zb x.2)]∧x.1.length≤100000000∧x.2.length≤100000000
structure Rz where
 name:List UInt8
 fields:List (List UInt8 × List UInt8)
 line:Int
structure Fz where
 name:List UInt8
 params:List (List UInt8 × List UInt8)
 result:List UInt8
 body:List Sz
 line:Int
structure Pz where
 recs:List Rz
 funs:List Fz
def Xk (B:Nat) (w:World) (x:Rz) (c:List Value):Prop:=∃b m cap,c=[.string (zb x.name),.slice b m cap,.int .i64 x.line]∧x.name.length≤100000000∧Zr PmZ 2 B w x.fields b m cap
def Xl (B:Nat) (w:World) (f:Nat) (x:Fz) (c:List Value):Prop:=∃b m cap b2 m2 cap2,c=[.string (zb x.name),.slice b m cap,.string (zb x.result),.slice b2 m2 cap2,.int .i64 x.line]∧x.name.length≤100000000∧x.result.length≤100000000∧Zr PmZ 2 B w x.params b m cap∧Zr (ZW B w f) 6 B w x.body b2 m2 cap2
def xJ (B:Nat) (w:World) (f:Nat) (x:Pz) (v:Value):Prop:=∃b m cap b2 m2 cap2,v=.agg #[.slice b m cap,.slice b2 m2 cap2]∧Zr (Xk B w) 3 B w x.recs b m cap∧Zr (Xl B w f) 5 B w x.funs b2 m2 cap2
theorem Xk.kept {B:Nat} {w w':World} (hb:Below B w w') (x:Rz) (c:List Value) (h:Xk B w x c):Xk B w' x c:=by
 obtain ⟨b,m,o,A,y,z⟩:=h;exact ⟨b,m,o,A,y,z.kept hb fun _ _ h=>h⟩
theorem Xk.wide {B B':Nat} {w:World} (hB:B≤B') (x:Rz) (c:List Value) (h:Xk B w x c):Xk B' w x c:=by
 obtain ⟨b,m,o,A,y,z⟩:=h;exact ⟨b,m,o,A,y,z.wide hB fun _ _ h=>h⟩
theorem Xl.kept {B:Nat} {w w':World} (hb:Below B w w') (f:Nat) (x:Fz) (c:List Value) (h:Xl B w f x c):Xl B w' f x c:=by
 obtain ⟨b,m,y,I,J,o,H,z,D,G,A⟩:=h;exact ⟨b,m,y,I,J,o,H,z,D,G.kept hb fun _ _ h=>h,A.kept hb (ZW.kept hb f)⟩
theorem Xl.wide {B B':Nat} {w:World} (hB:B≤B') (f:Nat) (x:Fz) (c:List Value) (h:Xl B w f x c):Xl B' w f x c:=by
 obtain ⟨b,m,y,I,J,o,H,z,D,G,A⟩:=h;exact ⟨b,m,y,I,J,o,H,z,D,G.wide hB fun _ _ h=>h,A.wide hB (ZW.wide hB f)⟩
theorem xJ.kept {B:Nat} {w w':World} (hb:Below B w w') {f:Nat} {x:Pz} {v:Value} (h:xJ B w f x v):xJ B w' f x v:=by
 obtain ⟨b,m,y,G,H,o,D,z,A⟩:=h;exact ⟨b,m,y,G,H,o,D,z.kept hb (Xk.kept hb),A.kept hb (Xl.kept hb f)⟩
theorem xJ.wide {B B':Nat} {w:World} (hB:B≤B') {f:Nat} {x:Pz} {v:Value} (h:xJ B w f x v):xJ B' w f x v:=by
 obtain ⟨b,m,y,G,H,o,D,z,A⟩:=h;exact ⟨b,m,y,G,H,o,D,z.wide hB (Xk.wide hB),A.wide hB (Xl.wide hB f)⟩
def yL (l:List (Option (List UInt8))):Nat→Option (List UInt8)
 | 0=>some []
 | i+1=>zc (yL l i) ((l[i]?).getD none)
theorem Qd (l:List (Option (List UInt8))) {i:Nat} (h:yL l i=none):∀k,yL l (i+k)=none
 | 0=>h
 | k+1=>by
  show yL l (i+k+1)=none
  rw [yL,Qd l h k];rfl
theorem ud (l:List (Option (List UInt8))) {i m:Nat} (hi:i<m) (h:(l[i]?).getD none=none):yL l m=none:=by
 have o:yL l (i+1)=none:=by
  rw [yL,h]
  cases yL l i <;> rfl
 have:=Qd l o (m-(i+1))
 rwa [show i+1+(m-(i+1))=m by omega] at this
def VI:Ez→Int | .mk k _ _ _ _=>k
def x9 (x:Ez):Bool:=VI x==4||VI x==8||VI x==9
def hasX (k:Int) (es:List Ez):Bool :=
 if k=1∨k=3∨k=4∨k=5∨k=7 then es.length==1
 else if k=2 then (match es with | [a,_]=>x9 a | _=>false)
 else if k=6 then decide (es.length≤1)
 else false
def Ye (k:Int) (s:List UInt8) (es:List Ez) (mb ml:Nat):Bool :=
 hasX k es&&(k==1||s==[])&&(k==4||k==3||k==5||mb==0)&&(k==4||ml==0)
def blkO (f:Sz→Option (List UInt8)) (l:List Sz):Option (List UInt8):=zc (some [123,10]) (zc (yL (l.map f) l.length) (some [125]))
def prS:Nat→Sz→Option (List UInt8)
 | 0,_=>none
 | d+1,.mk k s es body els _ =>
  if Ye k s es body.length els.length=true then
   if k=1 then match es with
    | a::_=>zc (some [108,101,116,32]) (zc (tokO 1 0 s) (zc (some [32,61,32]) (zc (prE d a) (some [59,10]))))
    | _=>none
   else if k=2 then match es with
    | a::b::_=>zc (prE d a) (zc (some [32,61,32]) (zc (prE d b) (some [59,10])))
    | _=>none
   else if k=6 then match es with
    | []=>zc (some [114,101,116,117,114,110]) (some [59,10])
    | a::_=>zc (some [114,101,116,117,114,110]) (zc (some [32]) (zc (prE d a) (some [59,10])))
   else if k=7 then match es with
    | a::_=>zc (prE d a) (some [59,10])
    | _=>none
   else if k=4 then match es with
    | a::_=>zc (some [105,102,32]) (zc (prE d a) (zc (some [32]) (zc (blkO (prS d) body) (zc (some [32,101,108,115,101,32]) (zc (blkO (prS d) els) (some [10]))))))
    | _=>none
   else match es with
    | a::_=>zc (some (if k=5 then [119,104,105,108,101,32] else [105,102,32])) (zc (prE d a) (zc (some [32]) (zc (blkO (prS d) body) (some [10]))))
    | _=>none
  else none
def funO (x:Fz):Option (List UInt8):=zc (some [102,110,32]) (zc (tokO 1 0 x.name) (zc (some [40]) (zc (rowO (x.params.map parO) x.params.length) (zc (some [41]) (zc (if x.result=[] then some [] else zc (some [58,32]) (typeO x.result)) (zc (some [32]) (zc (blkO (prS 24) x.body) (some [10]))))))))
def vd (x:Pz):Option (List UInt8):=zc (yL (x.recs.map fun r=>recO r.name r.fields) x.recs.length) (yL (x.funs.map funO) x.funs.length)
end Go.Proofs.YtpejpbbdgblbeaaGreatDoor
