import Derived.Test.YtcphojjpapgblaaGreatDoorMC14
namespace Go.Proofs.YtcphojjpapgblaaGreatDoor
open Go.RowKit Go.Shelf
set_option maxHeartbeats 16000000
set_option maxRecDepth 100000
theorem zaZ (r g o cap:Nat) (t:Tk) (ts:List Tk) (w:World) (res:PR Ex) (h:zf r g o cap (t::ts) w) (hs:¬(t.k=4∧(t.s=[45]∨t.s=[33])))
  (hwp:∀T,zf r g o cap (t::ts) T→zc r w T→Calls Tryz.prog 146 #[.pointer (some ⟨r,0,none⟩)] T (zJ r g T res)) :
  Calls Tryz.prog 123 #[.pointer (some ⟨r,0,none⟩)] w (zJ r g w res):=by
 have hr:=h.lt.1;have Z:=h.lt.2;have X:=fun w=>Ve t.s w
 have h0:=h.alloc Zz;have ch:=Z8 r g o cap t ts _ h0;obtain ⟨w2,L⟩:∃w2,w2=((w.alloc Zz).alloc (ZL t)).alloc (ZL t):=⟨_,rfl⟩;have h2:zf r g o cap (t::ts) w2:=by rw [L];exact (h0.alloc _).alloc _
 have k2:zc r w w2:=by rw [L];exact (((zc.refl r w).alloc _).alloc _).alloc _
 have Y:=hwp w2 h2 k2
 have n0:w2.heap[w.heap.size]?=some Zz:=by
  rw [L,Below.heap_alloc _ _ _ (by simp;omega),Below.heap_alloc _ _ _ (by simp)]
  exact World.alloc_heap_new _ _
 have Q:w.heap.size<w2.heap.size:=(Array.getElem?_eq_some_iff.1 n0).1;have W:Hid (w2.heap[w.heap.size]?=some Zz):=n0;have R:Hid (zc r w w2):=k2;have N:Hid (w2=((w.alloc Zz).alloc (ZL t)).alloc (ZL t)):=L;clear h h0 h2 k2 L hwp n0
 have V:∀e z,zJ r g w2 res e z→(∃a,res=.error a∧e=ZG a∧zc r w z)∨∃(x:Ex) (J:List Tk) (a:Int) (b:ByteArray) (c:Int) (D:Option Addr) (G A:Nat) (l:Int),res=.ok (x,J)∧e=.returned (.agg #[.int .i64 a,.string b,.int .i64 c,.slice D G A,.int .i64 l])∧z.heap[w.heap.size]?=some Zz ∧
   zJ r g w (.ok (x,J)) (.returned (.agg #[.int .i64 a,.string b,.int .i64 c,.slice D G A,.int .i64 l])) (set5 z w.heap.size (.int .i64 a) (.string b) (.int .i64 c) (.slice D G A) (.int .i64 l)):=by
  rintro e z ⟨O,y⟩;rcases res with a | ⟨x,J⟩
  ·exact .inl ⟨a,rfl,y,R.out.trans O⟩
  ·obtain ⟨v,o3,ad,rfl,hx,ab⟩:=y
   obtain ⟨a,b,c,D,G,A,l,rfl⟩:=hx.agg;exact .inr ⟨x,J,a,b,c,D,G,A,l,rfl,rfl,(O.block _ Q (by omega)).trans W.out,zJ.of_set5' (R.out.trans O) (Nat.le_refl _) hr Z hx Q ab⟩
 have I:Hid (∀e z,zJ r g w2 res e z→(∃a,res=.error a∧e=ZG a∧zc r w z)∨∃(x:Ex) (J:List Tk) (a:Int) (b:ByteArray) (c:Int) (D:Option Addr) (G A:Nat) (l:Int),res=.ok (x,J)∧e=.returned (.agg #[.int .i64 a,.string b,.int .i64 c,.slice D G A,.int .i64 l])∧z.heap[w.heap.size]?=some Zz ∧
   zJ r g w (.ok (x,J)) (.returned (.agg #[.int .i64 a,.string b,.int .i64 c,.slice D G A,.int .i64 l])) (set5 z w.heap.size (.int .i64 a) (.string b) (.int .i64 c) (.slice D G A) (.int .i64 l))):=V
 clear V W R Q
 go_enter Tryz.func123,Tryz.ntmps123
 go_wp2_with fail
 refine ch.mono ?_;clear ch;rintro e T ⟨rfl,rfl⟩;simp only [uJ]
 by_cases h4:t.k=4
 ·have hb:(t.s==[45]||t.s==[33])=false:=by
   rw [Bool.or_eq_false_iff,beq_eq_false_iff_ne,beq_eq_false_iff_ne];exact ⟨fun e=>hs ⟨h4,.inl e⟩,fun e=>hs ⟨h4,.inr e⟩⟩
  simp only [hb] at X;have aa:(t.k:Int)=4:=by omega
  go_wp2_with (go_at_call 117;refine (X _).mono ?_;rintro e T ⟨rfl,rfl⟩)
  have hO:ZL t=.cells #[.int .i64 4,.string (zb t.s),.int .i64 t.n,.int .i64 t.line,.int .i64 t.at0] 65:=by simp only [ZL,h4];rfl
  rw [show ((w.alloc Zz).alloc (ZL t)).alloc (.cells #[.int .i64 4,.string (zb t.s),.int .i64 t.n,.int .i64 t.line,.int .i64 t.at0] 65)=w2 by rw [←hO];exact N.out.symm]
  refine Y.mono ?_;clear Y X N;intro e z y;rcases I.out e z y with ⟨a,rfl,rfl,hk⟩ | ⟨x,J,a,b,c,D,G,A,l,rfl,rfl,H,U⟩
  ·exact ⟨rfl,hk,rfl⟩
  ·obtain ⟨z0,z1,z2,z3,z4⟩:=zY H (.int .i64 a) (.string b) (.int .i64 c) (.slice D G A) (.int .i64 l)
   have q0:z.cell? ⟨w.heap.size,0,none⟩=some (.int .i64 0):=by simp only [World.cell?,H];rfl
   have q1:z.cell? ⟨w.heap.size,1,none⟩=some (.string ⟨#[]⟩):=by simp only [World.cell?,H];rfl
   have q2:z.cell? ⟨w.heap.size,2,none⟩=some (.int .i64 0):=by simp only [World.cell?,H];rfl
   have q3:z.cell? ⟨w.heap.size,3,none⟩=some (.slice none 0 0):=by simp only [World.cell?,H];rfl
   have q4:z.cell? ⟨w.heap.size,4,none⟩=some (.int .i64 0):=by simp only [World.cell?,H];rfl
   have qf:∀j,z.frozen? ⟨w.heap.size,j,none⟩=false:=fun j=>by simp only [World.frozen?,H];simp
   have HP:Hid (zJ r g w (.ok (x,J)) (.returned (.agg #[.int .i64 a,.string b,.int .i64 c,.slice D G A,.int .i64 l])) (set5 z w.heap.size (.int .i64 a) (.string b) (.int .i64 c) (.slice D G A) (.int .i64 l))):=U;clear I y U H;go_wp2
   exact bodyPost_ret (v:=.agg #[.int .i64 a,.string b,.int .i64 c,.slice D G A,.int .i64 l]) (by simp [results,Tryz.results123,go_sem,z0,z1,z2,z3,z4]) rfl HP.out
 ·have aa:¬(t.k:Int)=4:=by omega
  go_wp2_with fail
  rw [←N.out];refine Y.mono ?_;clear Y X N;intro e z y;rcases I.out e z y with ⟨a,rfl,rfl,hk⟩ | ⟨x,J,a,b,c,D,G,A,l,rfl,rfl,H,U⟩
  ·exact ⟨rfl,hk,rfl⟩
  ·obtain ⟨z0,z1,z2,z3,z4⟩:=zY H (.int .i64 a) (.string b) (.int .i64 c) (.slice D G A) (.int .i64 l)
   have q0:z.cell? ⟨w.heap.size,0,none⟩=some (.int .i64 0):=by simp only [World.cell?,H];rfl
   have q1:z.cell? ⟨w.heap.size,1,none⟩=some (.string ⟨#[]⟩):=by simp only [World.cell?,H];rfl
   have q2:z.cell? ⟨w.heap.size,2,none⟩=some (.int .i64 0):=by simp only [World.cell?,H];rfl
   have q3:z.cell? ⟨w.heap.size,3,none⟩=some (.slice none 0 0):=by simp only [World.cell?,H];rfl
   have q4:z.cell? ⟨w.heap.size,4,none⟩=some (.int .i64 0):=by simp only [World.cell?,H];rfl
   have qf:∀j,z.frozen? ⟨w.heap.size,j,none⟩=false:=fun j=>by simp only [World.frozen?,H];simp
   have HP:Hid (zJ r g w (.ok (x,J)) (.returned (.agg #[.int .i64 a,.string b,.int .i64 c,.slice D G A,.int .i64 l])) (set5 z w.heap.size (.int .i64 a) (.string b) (.int .i64 c) (.slice D G A) (.int .i64 l))):=U;clear I y U H;go_wp2
   exact bodyPost_ret (v:=.agg #[.int .i64 a,.string b,.int .i64 c,.slice D G A,.int .i64 l]) (by simp [results,Tryz.results123,go_sem,z0,z1,z2,z3,z4]) rfl HP.out
theorem ZA.kept {r:Nat} {w w':World} (h:ZA w) (hk:zc r w w') (hr:r≠1):ZA w':=by
 intro i v o;exact hk.cell (p:=⟨1,0+i,none⟩) (fun e=>hr e.symm) (h i v o)
theorem zX.line_eq {S:Nat→Prop} {w:World} {x:Ex} {a b c d:Value} {l:Int} (h:zX S w x (.agg #[a,b,c,d,.int .i64 l])):l=(x.line:Int):=by
 cases h <;> rfl
def ZS (r g N F:Nat) (w:World) (res:PR Ex) (p:Nat→Ex→List Tk→Option (PR Ex)) (wr:World):Prop :=
 ∃(e:Ex) (ts:List Tk) (o cap f:Nat) (a:Int) (b:ByteArray) (c:Int) (d0:Option Addr) (d1 d2:Nat) (l:Int),f≤F∧p f e ts=some res∧zi ts∧ts.length≤1099511627776 ∧
  wr.heap[N]?=some (.cells #[.int .i64 a,.string b,.int .i64 c,.slice d0 d1 d2,.int .i64 l] 45 (0,0)) ∧
  zX (fun k=>w.heap.size<k∧k≠N) wr e (.agg #[.int .i64 a,.string b,.int .i64 c,.slice d0 d1 d2,.int .i64 l])∧zf r g o cap ts wr∧zc r w wr∧wr.heap[w.heap.size]?=some Zz
theorem zo {w:World} {N j:Nat} {c:Array Value} {ty:TypeId} {fr:Nat × Nat} (v:Value) (h:w.heap[N]?=some (.cells c ty fr)):(w.setCell ⟨N,j,none⟩ v).heap[N]?=some (.cells (c.setIfInBounds j v) ty fr):=by
 unfold World.setCell
 simp [Array.getElem?_modify,h]
theorem Yl {w:World} {N:Nat} {x0 x1 x2 x3 x4:Value} {ty:TypeId} (h:w.heap[N]?=some (.cells #[x0,x1,x2,x3,x4] ty (0,0))) (a b c d e:Value):(set5 w N a b c d e).heap[N]?=some (.cells #[a,b,c,d,e] ty (0,0)) :=
 zo e (zo d (zo c (zo b (zo a h))))
theorem zU {w:World} {N:Nat} {x0 x1 x2 x3 x4:Value} {ty:TypeId} (h:w.heap[N]?=some (.cells #[x0,x1,x2,x3,x4] ty (0,0))) :
  w.cell? ⟨N,0,none⟩=some x0∧w.cell? ⟨N,1,none⟩=some x1∧w.cell? ⟨N,2,none⟩=some x2∧w.cell? ⟨N,3,none⟩=some x3∧w.cell? ⟨N,4,none⟩=some x4∧∀j,w.frozen? ⟨N,j,none⟩=false:=by
 refine ⟨?_,?_,?_,?_,?_,fun j=>?_⟩
 ·simp only [World.cell?,h];rfl
 ·simp only [World.cell?,h];rfl
 ·simp only [World.cell?,h];rfl
 ·simp only [World.cell?,h];rfl
 ·simp only [World.cell?,h];rfl
 ·simp only [World.frozen?,h];simp
theorem ZS.leave {r g N o cap:Nat} {w wr W:World} {e:Ex} {ts:List Tk} {a:Int} {b:ByteArray} {c:Int} {d0:Option Addr} {d1 d2:Nat} {l:Int} (hr:r<w.heap.size) (hg:g<w.heap.size) (hNw:w.heap.size<N) (hk:zc r w wr)
  (hb:wr.heap[N]?=some (.cells #[.int .i64 a,.string b,.int .i64 c,.slice d0 d1 d2,.int .i64 l] 45 (0,0))) (hz:wr.heap[w.heap.size]?=some Zz)
  (hx:zX (fun k=>w.heap.size<k∧k≠N) wr e (.agg #[.int .i64 a,.string b,.int .i64 c,.slice d0 d1 d2,.int .i64 l])) (hK:zc r wr W) (hrd:zf r g o cap ts W) :
  W.heap[N]?=some (.cells #[.int .i64 a,.string b,.int .i64 c,.slice d0 d1 d2,.int .i64 l] 45 (0,0))∧W.heap[w.heap.size]?=some Zz ∧
  zJ r g w (.ok (e,ts)) (.returned (.agg #[.int .i64 a,.string b,.int .i64 c,.slice d0 d1 d2,.int .i64 l])) (set5 W w.heap.size (.int .i64 a) (.string b) (.int .i64 c) (.slice d0 d1 d2) (.int .i64 l)):=by
 refine ⟨(hK.block _ (Array.getElem?_eq_some_iff.1 hb).1 (by omega)).trans hb,(hK.block _ (Array.getElem?_eq_some_iff.1 hz).1 (by omega)).trans hz,?_⟩
 refine zJ.of_set5' (B:=w.heap.size+1) (hk.trans hK) (Nat.le_refl _) hr hg ?_ (Nat.lt_succ_self _) hrd;exact zX.wide (zX.kept hx hK.size fun k hk' hlt=>hK.block k hlt (by omega)) fun k hk'=>hk'.1
theorem ZS.start {r g F:Nat} {w w0 w1:World} {res:PR Ex} {p:Nat→Ex→List Tk→Option (PR Ex)} {x:Ex} {us:List Tk} {o cap:Nat} {a:Int} {b:ByteArray} {c:Int} {d0:Option Addr} {d1 d2:Nat} {l:Int} (hw0:w0=w.alloc Zz) (hr:r<w.heap.size) (hk:zc r w0 w1)
  (hx:ZI w0.heap.size w1 x (.agg #[.int .i64 a,.string b,.int .i64 c,.slice d0 d1 d2,.int .i64 l])) (hrd:zf r g o cap us w1) (hp:p F x us=some res) (hE:zi us) (hN:us.length≤1099511627776) :
  ZS r g w1.heap.size F w res p (w1.alloc (.cells #[.int .i64 a,.string b,.int .i64 c,.slice d0 d1 d2,.int .i64 l] 45)):=by
 have y:w0.heap.size=w.heap.size+1:=by rw [hw0];simp
 have h:zc r w w1:=by rw [hw0] at hk;exact ((zc.refl r w).alloc _).trans hk
 obtain ⟨t,ts,rfl⟩:=hE.cons;refine ⟨x,t::ts,o,cap,F,a,b,c,d0,d1,d2,l,Nat.le_refl _,hp,hE,hN,World.alloc_heap_new _ _,?_,hrd.alloc _,h.alloc _,?_⟩
 ·exact zX.wide (zX.kept (zX.low hx) (by simp) fun k hk _=>Below.heap_alloc _ _ _ hk.2) fun k hk=>⟨by omega,by omega⟩
 ·rw [Below.heap_alloc _ _ _ (by have:=hk.size;omega),hk.block _ (by omega) (by omega),hw0]
  exact World.alloc_heap_new _ _
theorem ZS.store {r g N F f:Nat} {w w7:World} {res:PR Ex} {p:Nat→Ex→List Tk→Option (PR Ex)} {x0 x1 x2 x3 x4:Value} {kids:List Ex} {us:List Tk} {o cap:Nat} {ob:Obj} {d0:Option Addr} {d1 d2:Nat} (k:Nat) (s:List UInt8) (n:Int) (line:Nat) (hr:r<w.heap.size) (hg:g<w.heap.size) (hNw:w.heap.size<N)
  (hk:zc r w w7) (hb:w7.heap[N]?=some (.cells #[x0,x1,x2,x3,x4] 45 (0,0))) (hrow:zK (fun k=>w.heap.size<k∧k≠N) (w7.alloc ob) kids (.slice d0 d1 d2)) (hrd:zf r g o cap us w7) (hz:w7.heap[w.heap.size]?=some Zz)
  (hf:f≤F) (hp:p f (.mk k s n kids line) us=some res) (hE:zi us) (hN:us.length≤1099511627776) :
  ZS r g N F w res p (set5 (w7.alloc ob) N (.int .i64 k) (.string (zb s)) (.int .i64 n) (.slice d0 d1 d2) (.int .i64 line)):=by
 have h:=(Array.getElem?_eq_some_iff.1 hb).1;obtain ⟨t,ts,rfl⟩:=hE.cons;have y:=hk.size;refine ⟨.mk k s n kids line,t::ts,o,cap,f,k,zb s,n,d0,d1,d2,line,hf,hp,hE,hN,Yl ((Below.heap_alloc _ _ _ h).trans hb) _ _ _ _ _,?_,?_,ZN (hk.alloc _) (by omega) _ _ _ _ _,?_⟩
 ·exact zX.of_row (hrow.kept (w':=set5 (w7.alloc ob) N (.int .i64 k) (.string (zb s)) (.int .i64 n) (.slice d0 d1 d2) (.int .i64 line)) (by simp) fun k hk _=>zr _ _ _ _ _ _ _ hk.2) k s n line
 ·exact (hrd.alloc ob).keep (zr _ _ _ _ _ _ _ (by omega)) (zr _ _ _ _ _ _ _ (by omega))
 ·rw [zr _ _ _ _ _ _ _ (by omega),Below.heap_alloc _ _ _ (by omega)];exact hz
theorem zcf (r g:Nat) (least:Nat) (w:World) (res:PR Ex) (hr:r<w.heap.size) (hgw:g<w.heap.size) (hl:6<least)
  (hb:Calls Tryz.prog 123 #[.pointer (some ⟨r,0,none⟩)] (w.alloc Zz) (zJ r g (w.alloc Zz) res)) :
  Calls Tryz.prog 84 #[.pointer (some ⟨r,0,none⟩),.int .i64 least] w (zJ r g w res):=by
 go_enter Tryz.func84,Tryz.ntmps84
 have O:(6:Int)<(least:Int):=by omega
 go_wp2_with fail
 refine hb.mono ?_;clear hb;rintro e w1 ⟨z,h⟩;have J:zc r w w1:=((zc.refl r w).alloc _).trans z;rcases res with a | ⟨x,ts⟩
 ·obtain rfl:=h
  exact ⟨rfl,J,rfl⟩
 ·obtain ⟨v,o,L,rfl,I,A⟩:=h
  obtain ⟨a,b,c,D,G,H,e,rfl⟩:=I.agg;have W:(w.alloc Zz).heap.size=w.heap.size+1:=by simp
  have y:w1.heap[w.heap.size]?=some Zz:=(z.block w.heap.size (by omega) (by omega)).trans (World.alloc_heap_new w _)
  have X:w1.cell? ⟨w.heap.size,0,none⟩=some (.int .i64 0):=by simp only [World.cell?,y];rfl
  have Y:w1.cell? ⟨w.heap.size,1,none⟩=some (.string ⟨#[]⟩):=by simp only [World.cell?,y];rfl
  have q2:w1.cell? ⟨w.heap.size,2,none⟩=some (.int .i64 0):=by simp only [World.cell?,y];rfl
  have Z:w1.cell? ⟨w.heap.size,3,none⟩=some (.slice none 0 0):=by simp only [World.cell?,y];rfl
  have q4:w1.cell? ⟨w.heap.size,4,none⟩=some (.int .i64 0):=by simp only [World.cell?,y];rfl
  have qf:∀j,w1.frozen? ⟨w.heap.size,j,none⟩=false:=fun j=>by simp only [World.frozen?,y];simp
  have U:Hid (zJ r g w (.ok (x,ts)) (.returned (.agg #[.int .i64 a,.string b,.int .i64 c,.slice D G H,.int .i64 e])) (set5 w1 w.heap.size (.int .i64 a) (.string b) (.int .i64 c) (.slice D G H) (.int .i64 e))) :=
   zJ.of_set5' J (Nat.le_refl _) hr hgw I (by omega) A
  obtain ⟨N,R,V,T,Q⟩:=zY y (.int .i64 a) (.string b) (.int .i64 c) (.slice D G H) (.int .i64 e);clear z I A J y;go_wp2
  exact bodyPost_ret (v:=.agg #[.int .i64 a,.string b,.int .i64 c,.slice D G H,.int .i64 e]) (by simp [results,Tryz.results84,go_sem,N,R,V,T,Q]) rfl U.out
theorem za0 (r g o cap:Nat) (t:Tk) (ts:List Tk) (w:World) (h:zf r g o cap (t::ts) w) (hk:t.k=2) (hne:ts≠[]) :
  Calls Tryz.prog 178 #[.pointer (some ⟨r,0,none⟩)] w (zJ r g w (.ok (.mk 1 [] t.n [] t.line,ts))):=by
 have hr:=h.lt.1;have G:=h.lt.2;have N:=h.alloc Zz;have X:=Z8 r g o cap t ts _ N;obtain ⟨w2,y⟩:∃w2,w2=((w.alloc Zz).alloc (ZL t)).alloc (.cells #[.int .i64 2,.string (zb t.s),.int .i64 t.n,.int .i64 t.line,.int .i64 t.at0] 65):=⟨_,rfl⟩;have H:zf r g o cap (t::ts) w2:=by rw [y];exact (N.alloc _).alloc _
 have R:zc r w w2:=by rw [y];exact (((zc.refl r w).alloc _).alloc _).alloc _
 have L:w2.heap[w.heap.size]?=some Zz:=by
  rw [y,Below.heap_alloc _ _ _ (by simp;omega),Below.heap_alloc _ _ _ (by simp)]
  exact World.alloc_heap_new _ _
 have J:w2.heap[w.heap.size+1+1]?=some (.cells #[.int .i64 2,.string (zb t.s),.int .i64 t.n,.int .i64 t.line,.int .i64 t.at0] 65):=by
  have V:=World.alloc_heap_new ((w.alloc Zz).alloc (ZL t)) (.cells #[.int .i64 2,.string (zb t.s),.int .i64 t.n,.int .i64 t.line,.int .i64 t.at0] 65);rw [←y,show ((w.alloc Zz).alloc (ZL t)).heap.size=w.heap.size+1+1 by simp] at V
  exact V
 have O:w.heap.size+1+1<w2.heap.size:=(Array.getElem?_eq_some_iff.1 J).1;have D:Hid (w2=((w.alloc Zz).alloc (ZL t)).alloc (.cells #[.int .i64 2,.string (zb t.s),.int .i64 t.n,.int .i64 t.line,.int .i64 t.at0] 65)):=y;clear h N y;have T:=Va r g o cap t ts w2 H hne
 go_enter Tryz.func178,Tryz.ntmps178
 go_wp2_with fail
 refine X.mono ?_;clear X;rintro e w1 ⟨rfl,rfl⟩;simp only [uJ];go_wp2_with fail
 rw [←D.out];refine T.mono ?_;clear T D;rintro e w3 ⟨rfl,z⟩;have U:zc r w w3:=by rw [z];exact R.setCell 0 _
 have A:zc r w2 w3:=by rw [z];exact (zc.refl r w2).setCell 0 _
 have W:zf r g (o+5) (cap-1) ts w3:=by rw [z];exact H.next
 have I:=(A.block _ (Array.getElem?_eq_some_iff.1 L).1 (by omega)).trans L
 have Q:=(A.block _ O (by omega)).trans J
 obtain ⟨c0,c1,c2,c3,c4,-⟩:=zU Q;obtain ⟨q0,q1,q2,q3,q4,qf⟩:=zU I;obtain ⟨Z,z1,z2,z3,z4⟩:=zY I (.int .i64 1) (.string ⟨#[]⟩) (.int .i64 t.n) (.slice none 0 0) (.int .i64 t.line)
 have Y:Hid (zJ r g w (.ok (.mk 1 [] t.n [] t.line,ts)) (.returned (.agg #[.int .i64 1,(.string ⟨#[]⟩),(.int .i64 t.n),.slice none 0 0,.int .i64 t.line])) (set5 w3 w.heap.size (.int .i64 1) (.string ⟨#[]⟩) (.int .i64 t.n) (.slice none 0 0) (.int .i64 t.line))) :=
  zJ.of_set5 (B:=w.heap.size+1) 1 [] t.n t.line U (Nat.le_refl _) hr G (.inl ⟨rfl,rfl⟩) (Nat.lt_succ_self _) W
 clear U A W I Q L J H R z;go_wp2
 exact bodyPost_ret (v:=.agg #[.int .i64 1,(.string ⟨#[]⟩),(.int .i64 t.n),.slice none 0 0,.int .i64 t.line]) (by simp [results,Tryz.results178,go_sem,Z,z1,z2,z3,z4]) rfl Y.out
theorem za1 (r g o cap:Nat) (t:Tk) (ts:List Tk) (w:World) (h:zf r g o cap (t::ts) w) (hk:t.k=3) (hne:ts≠[]) :
  Calls Tryz.prog 178 #[.pointer (some ⟨r,0,none⟩)] w (zJ r g w (.ok (.mk 3 t.s 0 [] t.line,ts))):=by
 have hr:=h.lt.1;have G:=h.lt.2;have N:=h.alloc Zz;have X:=Z8 r g o cap t ts _ N;obtain ⟨w2,y⟩:∃w2,w2=((w.alloc Zz).alloc (ZL t)).alloc (.cells #[.int .i64 3,.string (zb t.s),.int .i64 t.n,.int .i64 t.line,.int .i64 t.at0] 65):=⟨_,rfl⟩;have H:zf r g o cap (t::ts) w2:=by rw [y];exact (N.alloc _).alloc _
 have R:zc r w w2:=by rw [y];exact (((zc.refl r w).alloc _).alloc _).alloc _
 have L:w2.heap[w.heap.size]?=some Zz:=by
  rw [y,Below.heap_alloc _ _ _ (by simp;omega),Below.heap_alloc _ _ _ (by simp)]
  exact World.alloc_heap_new _ _
 have J:w2.heap[w.heap.size+1+1]?=some (.cells #[.int .i64 3,.string (zb t.s),.int .i64 t.n,.int .i64 t.line,.int .i64 t.at0] 65):=by
  have V:=World.alloc_heap_new ((w.alloc Zz).alloc (ZL t)) (.cells #[.int .i64 3,.string (zb t.s),.int .i64 t.n,.int .i64 t.line,.int .i64 t.at0] 65);rw [←y,show ((w.alloc Zz).alloc (ZL t)).heap.size=w.heap.size+1+1 by simp] at V
  exact V
 have O:w.heap.size+1+1<w2.heap.size:=(Array.getElem?_eq_some_iff.1 J).1;have D:Hid (w2=((w.alloc Zz).alloc (ZL t)).alloc (.cells #[.int .i64 3,.string (zb t.s),.int .i64 t.n,.int .i64 t.line,.int .i64 t.at0] 65)):=y;clear h N y;have T:=Va r g o cap t ts w2 H hne
 go_enter Tryz.func178,Tryz.ntmps178
 go_wp2_with fail
 refine X.mono ?_;clear X;rintro e w1 ⟨rfl,rfl⟩;simp only [uJ];go_wp2_with fail
 rw [←D.out];refine T.mono ?_;clear T D;rintro e w3 ⟨rfl,z⟩;have U:zc r w w3:=by rw [z];exact R.setCell 0 _
 have A:zc r w2 w3:=by rw [z];exact (zc.refl r w2).setCell 0 _
 have W:zf r g (o+5) (cap-1) ts w3:=by rw [z];exact H.next
 have I:=(A.block _ (Array.getElem?_eq_some_iff.1 L).1 (by omega)).trans L
 have Q:=(A.block _ O (by omega)).trans J
 obtain ⟨c0,c1,c2,c3,c4,-⟩:=zU Q;obtain ⟨q0,q1,q2,q3,q4,qf⟩:=zU I;obtain ⟨Z,z1,z2,z3,z4⟩:=zY I (.int .i64 3) (.string (zb t.s)) (.int .i64 0) (.slice none 0 0) (.int .i64 t.line)
 have Y:Hid (zJ r g w (.ok (.mk 3 t.s 0 [] t.line,ts)) (.returned (.agg #[.int .i64 3,(.string (zb t.s)),(.int .i64 0),.slice none 0 0,.int .i64 t.line])) (set5 w3 w.heap.size (.int .i64 3) (.string (zb t.s)) (.int .i64 0) (.slice none 0 0) (.int .i64 t.line))) :=
  zJ.of_set5 (B:=w.heap.size+1) 3 t.s 0 t.line U (Nat.le_refl _) hr G (.inl ⟨rfl,rfl⟩) (Nat.lt_succ_self _) W
 clear U A W I Q L J H R z;go_wp2
 exact bodyPost_ret (v:=.agg #[.int .i64 3,(.string (zb t.s)),(.int .i64 0),.slice none 0 0,.int .i64 t.line]) (by simp [results,Tryz.results178,go_sem,Z,z1,z2,z3,z4]) rfl Y.out
theorem Q0 (r g o cap:Nat) (t:Tk) (ts:List Tk) (w:World) (res:PR Ex) (h:zf r g o cap (t::ts) w) (hk:t.k=1)
  (hn:∀I,zf r g o cap (t::ts) I→zc r w I→Calls Tryz.prog 192 #[.pointer (some ⟨r,0,none⟩)] I (zJ r g I res)) :
  Calls Tryz.prog 178 #[.pointer (some ⟨r,0,none⟩)] w (zJ r g w res):=by
 have hr:=h.lt.1;have O:=h.lt.2;have V:=h.alloc Zz;have ch:=Z8 r g o cap t ts _ V;obtain ⟨w2,y⟩:∃w2,w2=((w.alloc Zz).alloc (ZL t)).alloc (.cells #[.int .i64 1,.string (zb t.s),.int .i64 t.n,.int .i64 t.line,.int .i64 t.at0] 65):=⟨_,rfl⟩;have W:zf r g o cap (t::ts) w2:=by rw [y];exact (V.alloc _).alloc _
 have Q:zc r w w2:=by rw [y];exact (((zc.refl r w).alloc _).alloc _).alloc _
 have U:w2.heap[w.heap.size]?=some Zz:=by
  rw [y,Below.heap_alloc _ _ _ (by simp;omega),Below.heap_alloc _ _ _ (by simp)]
  exact World.alloc_heap_new _ _
 have Y:w2.heap[w.heap.size+1+1]?=some (.cells #[.int .i64 1,.string (zb t.s),.int .i64 t.n,.int .i64 t.line,.int .i64 t.at0] 65):=by
  have D:=World.alloc_heap_new ((w.alloc Zz).alloc (ZL t)) (.cells #[.int .i64 1,.string (zb t.s),.int .i64 t.n,.int .i64 t.line,.int .i64 t.at0] 65);rw [←y,show ((w.alloc Zz).alloc (ZL t)).heap.size=w.heap.size+1+1 by simp] at D
  exact D
 have aa:w.heap.size+1+1<w2.heap.size:=(Array.getElem?_eq_some_iff.1 Y).1;have G:Hid (w2=((w.alloc Zz).alloc (ZL t)).alloc (.cells #[.int .i64 1,.string (zb t.s),.int .i64 t.n,.int .i64 t.line,.int .i64 t.at0] 65)):=y;clear h V y;have X:=hn w2 W Q;clear hn
 go_enter Tryz.func178,Tryz.ntmps178
 go_wp2_with fail
 refine ch.mono ?_;clear ch;rintro e I ⟨rfl,rfl⟩;simp only [uJ];go_wp2_with fail
 rw [←G.out];refine X.mono ?_;clear X G;rintro e w3 ⟨A,z⟩;have T:zc r w w3:=Q.trans A;rcases res with a | ⟨x,us⟩
 ·obtain rfl:=z
  exact ⟨rfl,T,rfl⟩
 ·obtain ⟨v,o3,Z,rfl,D,H⟩:=z
  obtain ⟨a,b,c,L,N,J,l,rfl⟩:=D.agg;have R:=(A.block _ (Array.getElem?_eq_some_iff.1 U).1 (by omega)).trans U
  obtain ⟨q0,q1,q2,q3,q4,qf⟩:=zU R;obtain ⟨z0,z1,z2,z3,z4⟩:=zY R (.int .i64 a) (.string b) (.int .i64 c) (.slice L N J) (.int .i64 l)
  have HP:Hid (zJ r g w (.ok (x,us)) (.returned (.agg #[.int .i64 a,.string b,.int .i64 c,.slice L N J,.int .i64 l])) (set5 w3 w.heap.size (.int .i64 a) (.string b) (.int .i64 c) (.slice L N J) (.int .i64 l))) :=
   zJ.of_set5' T (Nat.le_refl _) hr O D (by omega) H
  clear T A R U Y W Q D H;go_wp2
  exact bodyPost_ret (v:=.agg #[.int .i64 a,.string b,.int .i64 c,.slice L N J,.int .i64 l]) (by simp [results,Tryz.results178,go_sem,z0,z1,z2,z3,z4]) rfl HP.out
theorem Q1 (r g o cap:Nat) (t:Tk) (ts:List Tk) (w:World) (hi:zm t [116,114,117,101]=true) (h:zf r g o cap (t::ts) w) (hE:zi (t::ts)) (hk1:t.k≠1) (hk2:t.k≠2) (hk3:t.k≠3)  :
  Calls Tryz.prog 178 #[.pointer (some ⟨r,0,none⟩)] w (zJ r g w (.ok (.mk 2 [] 1 [] t.line,ts))):=by
 have hr:=h.lt.1;have J:=h.lt.2;have R:=h.alloc Zz;have ch:=Z8 r g o cap t ts _ R;obtain ⟨w2,y⟩:∃w2,w2=((w.alloc Zz).alloc (ZL t)).alloc (ZL t):=⟨_,rfl⟩;have Y:zf r g o cap (t::ts) w2:=by rw [y];exact (R.alloc _).alloc _
 have Z:zc r w w2:=by rw [y];exact (((zc.refl r w).alloc _).alloc _).alloc _
 have n0:w2.heap[w.heap.size]?=some Zz:=by
  rw [y,Below.heap_alloc _ _ _ (by simp;omega),Below.heap_alloc _ _ _ (by simp)]
  exact World.alloc_heap_new _ _
 have Q:w2.heap[w.heap.size+1+1]?=some (ZL t):=by
  have hx:=World.alloc_heap_new ((w.alloc Zz).alloc (ZL t)) (ZL t);rw [←y,show ((w.alloc Zz).alloc (ZL t)).heap.size=w.heap.size+1+1 by simp] at hx
  exact hx
 have T:w.heap.size+1+1<w2.heap.size:=(Array.getElem?_eq_some_iff.1 Q).1;have L:Hid (w2=((w.alloc Zz).alloc (ZL t)).alloc (ZL t)):=y;have V:Hid (zc r w w2):=Z;have W:Hid (w2.heap[w.heap.size]?=some Zz):=n0;have U:Hid (w2.heap[w.heap.size+1+1]?=some (ZL t)):=Q;have aa:¬(t.k:Int)=1:=by omega
 have ad:¬(t.k:Int)=2:=by omega
 have ab:¬(t.k:Int)=3:=by omega
 clear h R y Z n0 Q
 go_enter Tryz.func178,Tryz.ntmps178
 go_wp2_with fail
 refine ch.mono ?_;clear ch;rintro e w1 ⟨rfl,rfl⟩;simp only [uJ];have D:Hid (zc r w2 w2):=zc.refl r w2;have A:Hid (zf r g o cap (t::ts) w2):=Y;clear Y;have N:=Zy r g o cap t ts [116,114,117,101] w2 A.out (fun hi=>(hE.tail (zk hi)).ne)
 rw [hi] at N;go_wp2_with fail
 rw [←L.out];refine N.mono ?_;clear N;rintro e w9 ⟨rfl,H,G⟩;have z:zc r w2 w9:=D.out.trans H;have I:zf r g (o+5) (cap-1) ts w9:=by simpa using G
 have O:=(z.block _ (by omega) (by omega)).trans W.out
 have X:=(z.block _ T (by omega)).trans U.out
 obtain ⟨c0,c1,c2,c3,c4,-⟩:=zU X;obtain ⟨q0,q1,q2,q3,q4,qf⟩:=zU O;obtain ⟨z0,z1,z2,z3,z4⟩:=zY O (.int .i64 2) (.string ⟨#[]⟩) (.int .i64 1) (.slice none 0 0) (.int .i64 t.line)
 have HP:Hid (zJ r g w (.ok (.mk 2 [] 1 [] t.line,ts)) (.returned (.agg #[.int .i64 2,.string ⟨#[]⟩,.int .i64 1,.slice none 0 0,.int .i64 t.line])) (set5 w9 w.heap.size (.int .i64 2) (.string ⟨#[]⟩) (.int .i64 1) (.slice none 0 0) (.int .i64 t.line))) :=
  zJ.of_set5 (B:=w.heap.size+1) 2 [] 1 t.line (V.out.trans z) (Nat.le_refl _) hr J (.inl ⟨rfl,rfl⟩) (Nat.lt_succ_self _) I
 clear z I O X H G;go_wp2
 exact bodyPost_ret (v:=.agg #[.int .i64 2,.string ⟨#[]⟩,.int .i64 1,.slice none 0 0,.int .i64 t.line]) (by simp [results,Tryz.results178,go_sem,z0,z1,z2,z3,z4]) rfl HP.out
theorem qF (r g o cap:Nat) (t:Tk) (ts:List Tk) (w:World) (hi:zm t [102,97,108,115,101]=true) (h:zf r g o cap (t::ts) w) (hE:zi (t::ts)) (hk1:t.k≠1) (hk2:t.k≠2) (hk3:t.k≠3) (hiT:zm t [116,114,117,101]=false) :
  Calls Tryz.prog 178 #[.pointer (some ⟨r,0,none⟩)] w (zJ r g w (.ok (.mk 2 [] 0 [] t.line,ts))):=by
 have hr:=h.lt.1;have Q:=h.lt.2;have U:=h.alloc Zz;have ch:=Z8 r g o cap t ts _ U;obtain ⟨w2,y⟩:∃w2,w2=((w.alloc Zz).alloc (ZL t)).alloc (ZL t):=⟨_,rfl⟩;have h2:zf r g o cap (t::ts) w2:=by rw [y];exact (U.alloc _).alloc _
 have k2:zc r w w2:=by rw [y];exact (((zc.refl r w).alloc _).alloc _).alloc _
 have n0:w2.heap[w.heap.size]?=some Zz:=by
  rw [y,Below.heap_alloc _ _ _ (by simp;omega),Below.heap_alloc _ _ _ (by simp)]
  exact World.alloc_heap_new _ _
 have T:w2.heap[w.heap.size+1+1]?=some (ZL t):=by
  have hx:=World.alloc_heap_new ((w.alloc Zz).alloc (ZL t)) (ZL t);rw [←y,show ((w.alloc Zz).alloc (ZL t)).heap.size=w.heap.size+1+1 by simp] at hx
  exact hx
 have W:w.heap.size+1+1<w2.heap.size:=(Array.getElem?_eq_some_iff.1 T).1;have L:Hid (w2=((w.alloc Zz).alloc (ZL t)).alloc (ZL t)):=y;have Y:Hid (zc r w w2):=k2;have Z:Hid (w2.heap[w.heap.size]?=some Zz):=n0;have X:Hid (w2.heap[w.heap.size+1+1]?=some (ZL t)):=T;have aa:¬(t.k:Int)=1:=by omega
 have ad:¬(t.k:Int)=2:=by omega
 have ab:¬(t.k:Int)=3:=by omega
 clear h U y k2 n0 T
 go_enter Tryz.func178,Tryz.ntmps178
 go_wp2_with fail
 refine ch.mono ?_;clear ch;rintro e w1 ⟨rfl,rfl⟩;simp only [uJ];have H:Hid (zc r w2 w2):=zc.refl r w2;have G:Hid (zf r g o cap (t::ts) w2):=h2;clear h2;have I:=Zy r g o cap t ts [116,114,117,101] w2 G.out (fun hi=>(hE.tail (zk hi)).ne)
 rw [hiT] at I;go_wp2_with fail
 rw [←L.out];refine I.mono ?_;clear I;rintro e V ⟨rfl,A,z⟩;have N:Hid (zc r w2 V):=H.out.trans A;have J:Hid (zf r g o cap (t::ts) V):=show zf _ _ _ _ _ _ by simpa using z
 clear A z H G;clear L;have I:=Zy r g o cap t ts [102,97,108,115,101] V J.out (fun hi=>(hE.tail (zk hi)).ne)
 rw [hi] at I;go_wp2_with fail
 refine I.mono ?_;clear I;rintro e w9 ⟨rfl,A,z⟩;have D:zc r w2 w9:=N.out.trans A;have O:zf r g (o+5) (cap-1) ts w9:=by simpa using z
 have R:=(D.block _ (by omega) (by omega)).trans Z.out
 have p2:=(D.block _ W (by omega)).trans X.out
 obtain ⟨c0,c1,c2,c3,c4,-⟩:=zU p2;obtain ⟨q0,q1,q2,q3,q4,qf⟩:=zU R;obtain ⟨z0,z1,z2,z3,z4⟩:=zY R (.int .i64 2) (.string ⟨#[]⟩) (.int .i64 0) (.slice none 0 0) (.int .i64 t.line)
 have HP:Hid (zJ r g w (.ok (.mk 2 [] 0 [] t.line,ts)) (.returned (.agg #[.int .i64 2,.string ⟨#[]⟩,.int .i64 0,.slice none 0 0,.int .i64 t.line])) (set5 w9 w.heap.size (.int .i64 2) (.string ⟨#[]⟩) (.int .i64 0) (.slice none 0 0) (.int .i64 t.line))) :=
  zJ.of_set5 (B:=w.heap.size+1) 2 [] 0 t.line (Y.out.trans D) (Nat.le_refl _) hr Q (.inl ⟨rfl,rfl⟩) (Nat.lt_succ_self _) O
 clear D O R p2 A z;go_wp2
 exact bodyPost_ret (v:=.agg #[.int .i64 2,.string ⟨#[]⟩,.int .i64 0,.slice none 0 0,.int .i64 t.line]) (by simp [results,Tryz.results178,go_sem,z0,z1,z2,z3,z4]) rfl HP.out
def xY (t:Tk) (res:PR Ex):PR Ex :=
 if zm t [40]=true then
  match res with
  | .error a=>.error a
  | .ok (e,us)=>if zm (zu us) [41]=true then .ok (e,us.tail) else .error (zu us).at0
 else .error t.at0
theorem vQ (r g o cap:Nat) (t:Tk) (ts:List Tk) (w:World) (res:PR Ex) (hEnd:∀l us,res=.ok (l,us)→zi us) (hex:zm t [40]=true→∀w1 o1 cap1,zf r g o1 cap1 ts w1→zc r w w1→Calls Tryz.prog 42 #[.pointer (some ⟨r,0,none⟩)] w1 (zJ r g w1 res)) (h:zf r g o cap (t::ts) w) (hE:zi (t::ts)) (hk1:t.k≠1) (hk2:t.k≠2) (hk3:t.k≠3) (hiT:zm t [116,114,117,101]=false) (hiF:zm t [102,97,108,115,101]=false) (hiN:zm t [110,101,119]=false) (hiB:zm t [91]=false) :
  Calls Tryz.prog 178 #[.pointer (some ⟨r,0,none⟩)] w (zJ r g w (xY t res)):=by
 generalize hres:xY t res=R;have hr:=h.lt.1;have aD:=h.lt.2;have h0:=h.alloc Zz;have ch:=Z8 r g o cap t ts _ h0;obtain ⟨w2,I⟩:∃w2,w2=((w.alloc Zz).alloc (ZL t)).alloc (ZL t):=⟨_,rfl⟩;have h2:zf r g o cap (t::ts) w2:=by rw [I];exact (h0.alloc _).alloc _
 have k2:zc r w w2:=by rw [I];exact (((zc.refl r w).alloc _).alloc _).alloc _
 have n0:w2.heap[w.heap.size]?=some Zz:=by
  rw [I,Below.heap_alloc _ _ _ (by simp;omega),Below.heap_alloc _ _ _ (by simp)]
  exact World.alloc_heap_new _ _
 have n2:w2.heap[w.heap.size+1+1]?=some (ZL t):=by
  have hx:=World.alloc_heap_new ((w.alloc Zz).alloc (ZL t)) (ZL t);rw [←I,show ((w.alloc Zz).alloc (ZL t)).heap.size=w.heap.size+1+1 by simp] at hx
  exact hx
 have aL:w.heap.size+1+1<w2.heap.size:=(Array.getElem?_eq_some_iff.1 n2).1;have az:Hid (w2=((w.alloc Zz).alloc (ZL t)).alloc (ZL t)):=I;have W:Hid (zc r w w2):=k2;have aE:Hid (w2.heap[w.heap.size]?=some Zz):=n0;have aJ:Hid (w2.heap[w.heap.size+1+1]?=some (ZL t)):=n2;have aI:¬(t.k:Int)=1:=by omega
 have aH:¬(t.k:Int)=2:=by omega
 have aG:¬(t.k:Int)=3:=by omega
 clear h h0 I k2 n0 n2
 go_enter Tryz.func178,Tryz.ntmps178
 go_wp2_with fail
 refine ch.mono ?_;clear ch;rintro e w1 ⟨rfl,rfl⟩;simp only [uJ];have ak:Hid (zc r w2 w2):=zc.refl r w2;have ah:Hid (zf r g o cap (t::ts) w2):=h2;clear h2;have G:=Zy r g o cap t ts [116,114,117,101] w2 ah.out (fun hi=>(hE.tail (zk hi)).ne)
 rw [hiT] at G;go_wp2_with fail
 rw [←az.out];refine G.mono ?_;clear G;rintro e w3 ⟨rfl,y,z⟩;have aa:Hid (zc r w2 w3):=ak.out.trans y;have ag:Hid (zf r g o cap (t::ts) w3):=show zf _ _ _ _ _ _ by simpa using z
 clear y z ak ah;clear az;have G:=Zy r g o cap t ts [102,97,108,115,101] w3 ag.out (fun hi=>(hE.tail (zk hi)).ne)
 rw [hiF] at G;go_wp2_with fail
 refine G.mono ?_;clear G;rintro e w4 ⟨rfl,y,z⟩;have ad:Hid (zc r w2 w4):=aa.out.trans y;have al:Hid (zf r g o cap (t::ts) w4):=show zf _ _ _ _ _ _ by simpa using z
 clear y z aa ag;have G:=Zy r g o cap t ts [110,101,119] w4 al.out (fun hi=>(hE.tail (zk hi)).ne)
 rw [hiN] at G;go_wp2_with fail
 refine G.mono ?_;clear G;rintro e w5 ⟨rfl,y,z⟩;have af:Hid (zc r w2 w5):=ad.out.trans y;have am:Hid (zf r g o cap (t::ts) w5):=show zf _ _ _ _ _ _ by simpa using z
 clear y z ad al;have G:=Zy r g o cap t ts [91] w5 am.out (fun hi=>(hE.tail (zk hi)).ne)
 rw [hiB] at G;go_wp2_with fail
 refine G.mono ?_;clear G;rintro e w6 ⟨rfl,y,z⟩;have L:Hid (zc r w2 w6):=af.out.trans y;have ae:Hid (zf r g o cap (t::ts) w6):=show zf _ _ _ _ _ _ by simpa using z
 clear y z af am;have J:=yI r g o cap t ts [40] w6 ae.out (fun hi=>(hE.tail (zk hi)).ne)
 by_cases hi:zm t [40]=true
 ·simp only [if_pos hi] at J
  go_wp2_with fail
  refine J.mono ?_;clear J;rintro e w9 ⟨y,rfl,ax⟩;have ar:zc r w2 w9:=L.out.trans y;have c9:=hex hi w9 _ _ ax (W.out.trans ar);have aA:Hid (zc r w2 w9):=ar;clear hex y ax ar L ae;go_wp2_with fail
  refine c9.mono ?_;clear c9;rintro e H ⟨T,N⟩;have aj:Hid (zc r w2 H):=aA.out.trans T;rcases res with a | ⟨x,us⟩
  ·obtain rfl:=N
   obtain rfl:R=.error a:=by rw [←hres];unfold xY;rw [if_pos hi]
   exact ⟨rfl,W.out.trans aj.out,rfl⟩
  ·obtain ⟨v,o3,Z,rfl,hx,aC⟩:=N
   obtain ⟨a,b,c,O,Q,U,l,rfl⟩:=hx.agg;have ay:=hEnd x us rfl;obtain ⟨t3,X,rfl⟩:=ay.cons;obtain ⟨w11,D⟩:∃w11,w11=H.alloc (.cells #[.int .i64 a,.string b,.int .i64 c,.slice O Q U,.int .i64 l] 45):=⟨_,rfl⟩;have av:zf r g o3 Z (t3::X) w11:=by rw [D];exact aC.alloc _
   have ao:w11.heap[H.heap.size]?=some (.cells #[.int .i64 a,.string b,.int .i64 c,.slice O Q U,.int .i64 l] 45 (0,0)):=by rw [D];exact World.alloc_heap_new _ _
   have an:Hid (zc r w2 w11):=show zc _ _ _ by rw [D];exact aj.out.alloc _
   have Y:ZI w9.heap.size w11 x (.agg #[.int .i64 a,.string b,.int .i64 c,.slice O Q U,.int .i64 l]):=by rw [D];exact ZI.kept hx (by simp) fun k _ hlt=>Below.heap_alloc _ _ _ hlt
   have aB:Hid (ZI w9.heap.size w11 x (.agg #[.int .i64 a,.string b,.int .i64 c,.slice O Q U,.int .i64 l])):=Y;have aw:Hid (w11.heap[H.heap.size]?=some (.cells #[.int .i64 a,.string b,.int .i64 c,.slice O Q U,.int .i64 l] 45 (0,0))):=ao;have J:=yI r g o3 Z t3 X [41] w11 av (fun hi=>(ay.tail (zk hi)).ne)
   have V:Hid (w11=H.alloc (.cells #[.int .i64 a,.string b,.int .i64 c,.slice O Q U,.int .i64 l] 45)):=D;have aK:=aA.out.size;have aF:=T.size;have au:H.heap.size<w11.heap.size:=(Array.getElem?_eq_some_iff.1 ao).1;clear D av ao Y hx aC T
   by_cases hm:zm t3 [41]=true
   ·simp only [if_pos hm] at J
    obtain rfl:R=.ok (x,X):=by rw [←hres];unfold xY;rw [if_pos hi];simp only [zC,hm,if_true,List.tail_cons]
    go_wp2_with fail
    rw [←V.out];refine J.mono ?_;clear J V;rintro e aq ⟨A,rfl,ab⟩;have ap:=an.out.trans A;have p0:=(ap.block _ (by omega) (by omega)).trans aE.out
    have pB:=(A.block _ au (by omega)).trans aw.out
    obtain ⟨c0,c1,c2,c3,c4,-⟩:=zU pB;obtain ⟨q0,q1,q2,q3,q4,qf⟩:=zU p0;obtain ⟨z0,z1,z2,z3,z4⟩:=zY p0 (.int .i64 a) (.string b) (.int .i64 c) (.slice O Q U) (.int .i64 l);have ai:ZI w9.heap.size aq x (.agg #[.int .i64 a,.string b,.int .i64 c,.slice O Q U,.int .i64 l]):=ZI.kept aB.out A.size fun k hB hlt=>A.block k hlt (by omega)
    have HP:Hid (zJ r g w (.ok (x,X)) (.returned (.agg #[.int .i64 a,.string b,.int .i64 c,.slice O Q U,.int .i64 l])) (set5 aq w.heap.size (.int .i64 a) (.string b) (.int .i64 c) (.slice O Q U) (.int .i64 l))) :=
     zJ.of_set5' (W.out.trans ap) (Nat.le_refl _) hr aD ai (by omega) ab
    clear ap A ab p0 pB ai;go_wp2
    exact bodyPost_ret (v:=.agg #[.int .i64 a,.string b,.int .i64 c,.slice O Q U,.int .i64 l]) (by simp [results,Tryz.results178,go_sem,z0,z1,z2,z3,z4]) rfl HP.out
   ·simp only [if_neg hm] at J
    obtain rfl:R=.error t3.at0:=by rw [←hres];unfold xY;rw [if_pos hi];simp only [zC,if_neg hm]
    go_wp2_with fail
    rw [←V.out];refine J.mono ?_;clear J;rintro e aq ⟨A,rfl⟩;exact ⟨rfl,W.out.trans (an.out.trans A),rfl⟩
 ·simp only [if_neg hi] at J
  obtain rfl:R=.error t.at0:=by rw [←hres];unfold xY;rw [if_neg hi]
  clear hex hEnd;go_wp2_with fail
  refine J.mono ?_;clear J;rintro e w9 ⟨y,rfl⟩;exact ⟨rfl,W.out.trans (L.out.trans y),rfl⟩
end Go.Proofs.YtcphojjpapgblaaGreatDoor
