import Derived.Test.YtpejpbbdgblbeaaGreatDoorMC15
namespace Go.Proofs.YtpejpbbdgblbeaaGreatDoor
open Go.RowKit Go.Shelf
set_option maxHeartbeats 16000000
set_option maxRecDepth 100000
theorem QE (r g o cap:Nat) (t:Tk) (ts:List Tk) (w:World) (res:PR Ex) (h:zf r g o cap (t::ts) w) (hs:¬(t.k=4∧(t.s=[45]∨t.s=[33])))
  (hwp:∀R,zf r g o cap (t::ts) R→zd r w R→Calls Tryz.prog 148 #[.pointer (some ⟨r,0,none⟩)] R (zH r g R res)) :
  Calls Tryz.prog 125 #[.pointer (some ⟨r,0,none⟩)] w (zH r g w res):=by
 have hr:=h.lt.1;have Z:=h.lt.2;have Y:=fun w=>vD t.s w
 have h0:=h.alloc Zu;have ch:=Z3 r g o cap t ts _ h0;obtain ⟨w2,J⟩:∃w2,w2=((w.alloc Zu).alloc (ZK t)).alloc (ZK t):=⟨_,rfl⟩;have h2:zf r g o cap (t::ts) w2:=by rw [J];exact (h0.alloc _).alloc _
 have k2:zd r w w2:=by rw [J];exact (((zd.refl r w).alloc _).alloc _).alloc _
 have W:=hwp w2 h2 k2
 have n0:w2.heap[w.heap.size]?=some Zu:=by
  rw [J,Below.heap_alloc _ _ _ (by simp;omega),Below.heap_alloc _ _ _ (by simp)]
  exact World.alloc_heap_new _ _
 have O:w.heap.size<w2.heap.size:=(Array.getElem?_eq_some_iff.1 n0).1;have T:Hid (w2.heap[w.heap.size]?=some Zu):=n0;have Q:Hid (zd r w w2):=k2;have L:Hid (w2=((w.alloc Zu).alloc (ZK t)).alloc (ZK t)):=J;clear h h0 h2 k2 J hwp n0
 have V:∀e z,zH r g w2 res e z→(∃a,res=.error a∧e=ZH a∧zd r w z)∨∃(x:Ex) (K:List Tk) (a:Int) (b:ByteArray) (c:Int) (D:Option Addr) (A G:Nat) (l:Int),res=.ok (x,K)∧e=.returned (.agg #[.int .i64 a,.string b,.int .i64 c,.slice D A G,.int .i64 l])∧z.heap[w.heap.size]?=some Zu ∧
   zH r g w (.ok (x,K)) (.returned (.agg #[.int .i64 a,.string b,.int .i64 c,.slice D A G,.int .i64 l])) (set5 z w.heap.size (.int .i64 a) (.string b) (.int .i64 c) (.slice D A G) (.int .i64 l)):=by
  rintro e z ⟨N,y⟩;rcases res with a | ⟨x,K⟩
  ·exact .inl ⟨a,rfl,y,Q.out.trans N⟩
  ·obtain ⟨v,o3,ad,rfl,hx,ab⟩:=y
   obtain ⟨a,b,c,D,A,G,l,rfl⟩:=hx.agg;exact .inr ⟨x,K,a,b,c,D,A,G,l,rfl,rfl,(N.block _ O (by omega)).trans T.out,zH.of_set5' (Q.out.trans N) (Nat.le_refl _) hr Z hx O ab⟩
 have I:Hid (∀e z,zH r g w2 res e z→(∃a,res=.error a∧e=ZH a∧zd r w z)∨∃(x:Ex) (K:List Tk) (a:Int) (b:ByteArray) (c:Int) (D:Option Addr) (A G:Nat) (l:Int),res=.ok (x,K)∧e=.returned (.agg #[.int .i64 a,.string b,.int .i64 c,.slice D A G,.int .i64 l])∧z.heap[w.heap.size]?=some Zu ∧
   zH r g w (.ok (x,K)) (.returned (.agg #[.int .i64 a,.string b,.int .i64 c,.slice D A G,.int .i64 l])) (set5 z w.heap.size (.int .i64 a) (.string b) (.int .i64 c) (.slice D A G) (.int .i64 l))):=V
 clear V T Q O
 go_enter Tryz.func125,Tryz.ntmps125
 go_wp2_with fail
 refine ch.mono ?_;clear ch;rintro e R ⟨rfl,rfl⟩;simp only [VP]
 by_cases h4:t.k=4
 ·have hb:(t.s==[45]||t.s==[33])=false:=by
   rw [Bool.or_eq_false_iff,beq_eq_false_iff_ne,beq_eq_false_iff_ne];exact ⟨fun e=>hs ⟨h4,.inl e⟩,fun e=>hs ⟨h4,.inr e⟩⟩
  simp only [hb] at Y;have aa:(t.k:Int)=4:=by omega
  go_wp2_with (go_at_call 119;refine (Y _).mono ?_;rintro e R ⟨rfl,rfl⟩)
  have hO:ZK t=.cells #[.int .i64 4,.string (zb t.s),.int .i64 t.n,.int .i64 t.line,.int .i64 t.at0] 66:=by simp only [ZK,h4];rfl
  rw [show ((w.alloc Zu).alloc (ZK t)).alloc (.cells #[.int .i64 4,.string (zb t.s),.int .i64 t.n,.int .i64 t.line,.int .i64 t.at0] 66)=w2 by rw [←hO];exact L.out.symm]
  refine W.mono ?_;clear W Y L;intro e z y;rcases I.out e z y with ⟨a,rfl,rfl,hk⟩ | ⟨x,K,a,b,c,D,A,G,l,rfl,rfl,H,U⟩
  ·exact ⟨rfl,hk,rfl⟩
  ·obtain ⟨z0,z1,z2,z3,z4⟩:=zT H (.int .i64 a) (.string b) (.int .i64 c) (.slice D A G) (.int .i64 l)
   have q0:z.cell? ⟨w.heap.size,0,none⟩=some (.int .i64 0):=by simp only [World.cell?,H];rfl
   have q1:z.cell? ⟨w.heap.size,1,none⟩=some (.string ⟨#[]⟩):=by simp only [World.cell?,H];rfl
   have q2:z.cell? ⟨w.heap.size,2,none⟩=some (.int .i64 0):=by simp only [World.cell?,H];rfl
   have q3:z.cell? ⟨w.heap.size,3,none⟩=some (.slice none 0 0):=by simp only [World.cell?,H];rfl
   have q4:z.cell? ⟨w.heap.size,4,none⟩=some (.int .i64 0):=by simp only [World.cell?,H];rfl
   have qf:∀j,z.frozen? ⟨w.heap.size,j,none⟩=false:=fun j=>by simp only [World.frozen?,H];simp
   have HP:Hid (zH r g w (.ok (x,K)) (.returned (.agg #[.int .i64 a,.string b,.int .i64 c,.slice D A G,.int .i64 l])) (set5 z w.heap.size (.int .i64 a) (.string b) (.int .i64 c) (.slice D A G) (.int .i64 l))):=U;clear I y U H;go_wp2
   exact bodyPost_ret (v:=.agg #[.int .i64 a,.string b,.int .i64 c,.slice D A G,.int .i64 l]) (by simp [results,Tryz.results125,go_sem,z0,z1,z2,z3,z4]) rfl HP.out
 ·have aa:¬(t.k:Int)=4:=by omega
  go_wp2_with fail
  rw [←L.out];refine W.mono ?_;clear W Y L;intro e z y;rcases I.out e z y with ⟨a,rfl,rfl,hk⟩ | ⟨x,K,a,b,c,D,A,G,l,rfl,rfl,H,U⟩
  ·exact ⟨rfl,hk,rfl⟩
  ·obtain ⟨z0,z1,z2,z3,z4⟩:=zT H (.int .i64 a) (.string b) (.int .i64 c) (.slice D A G) (.int .i64 l)
   have q0:z.cell? ⟨w.heap.size,0,none⟩=some (.int .i64 0):=by simp only [World.cell?,H];rfl
   have q1:z.cell? ⟨w.heap.size,1,none⟩=some (.string ⟨#[]⟩):=by simp only [World.cell?,H];rfl
   have q2:z.cell? ⟨w.heap.size,2,none⟩=some (.int .i64 0):=by simp only [World.cell?,H];rfl
   have q3:z.cell? ⟨w.heap.size,3,none⟩=some (.slice none 0 0):=by simp only [World.cell?,H];rfl
   have q4:z.cell? ⟨w.heap.size,4,none⟩=some (.int .i64 0):=by simp only [World.cell?,H];rfl
   have qf:∀j,z.frozen? ⟨w.heap.size,j,none⟩=false:=fun j=>by simp only [World.frozen?,H];simp
   have HP:Hid (zH r g w (.ok (x,K)) (.returned (.agg #[.int .i64 a,.string b,.int .i64 c,.slice D A G,.int .i64 l])) (set5 z w.heap.size (.int .i64 a) (.string b) (.int .i64 c) (.slice D A G) (.int .i64 l))):=U;clear I y U H;go_wp2
   exact bodyPost_ret (v:=.agg #[.int .i64 a,.string b,.int .i64 c,.slice D A G,.int .i64 l]) (by simp [results,Tryz.results125,go_sem,z0,z1,z2,z3,z4]) rfl HP.out
theorem Zz.kept {r:Nat} {w w':World} (h:Zz w) (hk:zd r w w') (hr:r≠1):Zz w':=by
 intro i v o;exact hk.cell (p:=⟨1,0+i,none⟩) (fun e=>hr e.symm) (h i v o)
theorem zV.line_eq {S:Nat→Prop} {w:World} {x:Ex} {a b c d:Value} {l:Int} (h:zV S w x (.agg #[a,b,c,d,.int .i64 l])):l=(x.line:Int):=by
 cases h <;> rfl
def ZT (r g N F:Nat) (w:World) (res:PR Ex) (p:Nat→Ex→List Tk→Option (PR Ex)) (wr:World):Prop :=
 ∃(e:Ex) (ts:List Tk) (o cap f:Nat) (a:Int) (b:ByteArray) (c:Int) (d0:Option Addr) (d1 d2:Nat) (l:Int),f≤F∧p f e ts=some res∧zg ts∧ts.length≤1099511627776 ∧
  wr.heap[N]?=some (.cells #[.int .i64 a,.string b,.int .i64 c,.slice d0 d1 d2,.int .i64 l] 45 (0,0)) ∧
  zV (fun k=>w.heap.size<k∧k≠N) wr e (.agg #[.int .i64 a,.string b,.int .i64 c,.slice d0 d1 d2,.int .i64 l])∧zf r g o cap ts wr∧zd r w wr∧wr.heap[w.heap.size]?=some Zu
theorem zn {w:World} {N j:Nat} {c:Array Value} {ty:TypeId} {fr:Nat × Nat} (v:Value) (h:w.heap[N]?=some (.cells c ty fr)):(w.setCell ⟨N,j,none⟩ v).heap[N]?=some (.cells (c.setIfInBounds j v) ty fr):=by
 unfold World.setCell
 simp [Array.getElem?_modify,h]
theorem y7 {w:World} {N:Nat} {x0 x1 x2 x3 x4:Value} {ty:TypeId} (h:w.heap[N]?=some (.cells #[x0,x1,x2,x3,x4] ty (0,0))) (a b c d e:Value):(set5 w N a b c d e).heap[N]?=some (.cells #[a,b,c,d,e] ty (0,0)) :=
 zn e (zn d (zn c (zn b (zn a h))))
theorem zR {w:World} {N:Nat} {x0 x1 x2 x3 x4:Value} {ty:TypeId} (h:w.heap[N]?=some (.cells #[x0,x1,x2,x3,x4] ty (0,0))) :
  w.cell? ⟨N,0,none⟩=some x0∧w.cell? ⟨N,1,none⟩=some x1∧w.cell? ⟨N,2,none⟩=some x2∧w.cell? ⟨N,3,none⟩=some x3∧w.cell? ⟨N,4,none⟩=some x4∧∀j,w.frozen? ⟨N,j,none⟩=false:=by
 refine ⟨?_,?_,?_,?_,?_,fun j=>?_⟩
 ·simp only [World.cell?,h];rfl
 ·simp only [World.cell?,h];rfl
 ·simp only [World.cell?,h];rfl
 ·simp only [World.cell?,h];rfl
 ·simp only [World.cell?,h];rfl
 ·simp only [World.frozen?,h];simp
theorem ZT.leave {r g N o cap:Nat} {w wr W:World} {e:Ex} {ts:List Tk} {a:Int} {b:ByteArray} {c:Int} {d0:Option Addr} {d1 d2:Nat} {l:Int} (hr:r<w.heap.size) (hg:g<w.heap.size) (hNw:w.heap.size<N) (hk:zd r w wr)
  (hb:wr.heap[N]?=some (.cells #[.int .i64 a,.string b,.int .i64 c,.slice d0 d1 d2,.int .i64 l] 45 (0,0))) (hz:wr.heap[w.heap.size]?=some Zu)
  (hx:zV (fun k=>w.heap.size<k∧k≠N) wr e (.agg #[.int .i64 a,.string b,.int .i64 c,.slice d0 d1 d2,.int .i64 l])) (hK:zd r wr W) (hrd:zf r g o cap ts W) :
  W.heap[N]?=some (.cells #[.int .i64 a,.string b,.int .i64 c,.slice d0 d1 d2,.int .i64 l] 45 (0,0))∧W.heap[w.heap.size]?=some Zu ∧
  zH r g w (.ok (e,ts)) (.returned (.agg #[.int .i64 a,.string b,.int .i64 c,.slice d0 d1 d2,.int .i64 l])) (set5 W w.heap.size (.int .i64 a) (.string b) (.int .i64 c) (.slice d0 d1 d2) (.int .i64 l)):=by
 refine ⟨(hK.block _ (Array.getElem?_eq_some_iff.1 hb).1 (by omega)).trans hb,(hK.block _ (Array.getElem?_eq_some_iff.1 hz).1 (by omega)).trans hz,?_⟩
 refine zH.of_set5' (B:=w.heap.size+1) (hk.trans hK) (Nat.le_refl _) hr hg ?_ (Nat.lt_succ_self _) hrd;exact zV.wide (zV.kept hx hK.size fun k hk' hlt=>hK.block k hlt (by omega)) fun k hk'=>hk'.1
theorem ZT.start {r g F:Nat} {w w0 w1:World} {res:PR Ex} {p:Nat→Ex→List Tk→Option (PR Ex)} {x:Ex} {us:List Tk} {o cap:Nat} {a:Int} {b:ByteArray} {c:Int} {d0:Option Addr} {d1 d2:Nat} {l:Int} (hw0:w0=w.alloc Zu) (hr:r<w.heap.size) (hk:zd r w0 w1)
  (hx:ZL w0.heap.size w1 x (.agg #[.int .i64 a,.string b,.int .i64 c,.slice d0 d1 d2,.int .i64 l])) (hrd:zf r g o cap us w1) (hp:p F x us=some res) (hE:zg us) (hN:us.length≤1099511627776) :
  ZT r g w1.heap.size F w res p (w1.alloc (.cells #[.int .i64 a,.string b,.int .i64 c,.slice d0 d1 d2,.int .i64 l] 45)):=by
 have s:w0.heap.size=w.heap.size+1:=by rw [hw0];simp
 have h:zd r w w1:=by rw [hw0] at hk;exact ((zd.refl r w).alloc _).trans hk
 obtain ⟨t,ts,rfl⟩:=hE.cons;refine ⟨x,t::ts,o,cap,F,a,b,c,d0,d1,d2,l,Nat.le_refl _,hp,hE,hN,World.alloc_heap_new _ _,?_,hrd.alloc _,h.alloc _,?_⟩
 ·exact zV.wide (zV.kept (zV.low hx) (by simp) fun k hk _=>Below.heap_alloc _ _ _ hk.2) fun k hk=>⟨by omega,by omega⟩
 ·rw [Below.heap_alloc _ _ _ (by have:=hk.size;omega),hk.block _ (by omega) (by omega),hw0]
  exact World.alloc_heap_new _ _
theorem ZT.store {r g N F f:Nat} {w w7:World} {res:PR Ex} {p:Nat→Ex→List Tk→Option (PR Ex)} {x0 x1 x2 x3 x4:Value} {kids:List Ex} {us:List Tk} {o cap:Nat} {ob:Obj} {d0:Option Addr} {d1 d2:Nat} (k:Nat) (s:List UInt8) (n:Int) (line:Nat) (hr:r<w.heap.size) (hg:g<w.heap.size) (hNw:w.heap.size<N)
  (hk:zd r w w7) (hb:w7.heap[N]?=some (.cells #[x0,x1,x2,x3,x4] 45 (0,0))) (hrow:zI (fun k=>w.heap.size<k∧k≠N) (w7.alloc ob) kids (.slice d0 d1 d2)) (hrd:zf r g o cap us w7) (hz:w7.heap[w.heap.size]?=some Zu)
  (hf:f≤F) (hp:p f (.mk k s n kids line) us=some res) (hE:zg us) (hN:us.length≤1099511627776) :
  ZT r g N F w res p (set5 (w7.alloc ob) N (.int .i64 k) (.string (zb s)) (.int .i64 n) (.slice d0 d1 d2) (.int .i64 line)):=by
 have h:=(Array.getElem?_eq_some_iff.1 hb).1;obtain ⟨t,ts,rfl⟩:=hE.cons;have y:=hk.size;refine ⟨.mk k s n kids line,t::ts,o,cap,f,k,zb s,n,d0,d1,d2,line,hf,hp,hE,hN,y7 ((Below.heap_alloc _ _ _ h).trans hb) _ _ _ _ _,?_,?_,ZO (hk.alloc _) (by omega) _ _ _ _ _,?_⟩
 ·exact zV.of_row (hrow.kept (w':=set5 (w7.alloc ob) N (.int .i64 k) (.string (zb s)) (.int .i64 n) (.slice d0 d1 d2) (.int .i64 line)) (by simp) fun k hk _=>zr _ _ _ _ _ _ _ hk.2) k s n line
 ·exact (hrd.alloc ob).keep (zr _ _ _ _ _ _ _ (by omega)) (zr _ _ _ _ _ _ _ (by omega))
 ·rw [zr _ _ _ _ _ _ _ (by omega),Below.heap_alloc _ _ _ (by omega)];exact hz
theorem zaN (r g:Nat) (least:Nat) (w:World) (res:PR Ex) (hr:r<w.heap.size) (hgw:g<w.heap.size) (hl:6<least)
  (hb:Calls Tryz.prog 125 #[.pointer (some ⟨r,0,none⟩)] (w.alloc Zu) (zH r g (w.alloc Zu) res)) :
  Calls Tryz.prog 86 #[.pointer (some ⟨r,0,none⟩),.int .i64 least] w (zH r g w res):=by
 go_enter Tryz.func86,Tryz.ntmps86
 have T:(6:Int)<(least:Int):=by omega
 go_wp2_with fail
 refine hb.mono ?_;clear hb;rintro e w1 ⟨y,h⟩;have I:zd r w w1:=((zd.refl r w).alloc _).trans y;rcases res with a | ⟨x,ts⟩
 ·obtain rfl:=h
  exact ⟨rfl,I,rfl⟩
 ·obtain ⟨v,o,N,rfl,H,z⟩:=h
  obtain ⟨a,b,c,G,D,A,e,rfl⟩:=H.agg;have U:(w.alloc Zu).heap.size=w.heap.size+1:=by simp
  have s:w1.heap[w.heap.size]?=some Zu:=(y.block w.heap.size (by omega) (by omega)).trans (World.alloc_heap_new w _)
  have Z:w1.cell? ⟨w.heap.size,0,none⟩=some (.int .i64 0):=by simp only [World.cell?,s];rfl
  have q1:w1.cell? ⟨w.heap.size,1,none⟩=some (.string ⟨#[]⟩):=by simp only [World.cell?,s];rfl
  have q2:w1.cell? ⟨w.heap.size,2,none⟩=some (.int .i64 0):=by simp only [World.cell?,s];rfl
  have W:w1.cell? ⟨w.heap.size,3,none⟩=some (.slice none 0 0):=by simp only [World.cell?,s];rfl
  have Y:w1.cell? ⟨w.heap.size,4,none⟩=some (.int .i64 0):=by simp only [World.cell?,s];rfl
  have V:∀j,w1.frozen? ⟨w.heap.size,j,none⟩=false:=fun j=>by simp only [World.frozen?,s];simp
  have O:Hid (zH r g w (.ok (x,ts)) (.returned (.agg #[.int .i64 a,.string b,.int .i64 c,.slice G D A,.int .i64 e])) (set5 w1 w.heap.size (.int .i64 a) (.string b) (.int .i64 c) (.slice G D A) (.int .i64 e))) :=
   zH.of_set5' I (Nat.le_refl _) hr hgw H (by omega) z
  obtain ⟨K,L,J,R,Q⟩:=zT s (.int .i64 a) (.string b) (.int .i64 c) (.slice G D A) (.int .i64 e);clear y H z I s;go_wp2
  exact bodyPost_ret (v:=.agg #[.int .i64 a,.string b,.int .i64 c,.slice G D A,.int .i64 e]) (by simp [results,Tryz.results86,go_sem,K,L,J,R,Q]) rfl O.out
theorem QF (r g o cap:Nat) (t:Tk) (ts:List Tk) (w:World) (h:zf r g o cap (t::ts) w) (hk:t.k=2) (hne:ts≠[]) :
  Calls Tryz.prog 180 #[.pointer (some ⟨r,0,none⟩)] w (zH r g w (.ok (.mk 1 [] t.n [] t.line,ts))):=by
 have hr:=h.lt.1;have G:=h.lt.2;have I:=h.alloc Zu;have T:=Z3 r g o cap t ts _ I;obtain ⟨w2,y⟩:∃w2,w2=((w.alloc Zu).alloc (ZK t)).alloc (.cells #[.int .i64 2,.string (zb t.s),.int .i64 t.n,.int .i64 t.line,.int .i64 t.at0] 66):=⟨_,rfl⟩;have K:zf r g o cap (t::ts) w2:=by rw [y];exact (I.alloc _).alloc _
 have O:zd r w w2:=by rw [y];exact (((zd.refl r w).alloc _).alloc _).alloc _
 have J:w2.heap[w.heap.size]?=some Zu:=by
  rw [y,Below.heap_alloc _ _ _ (by simp;omega),Below.heap_alloc _ _ _ (by simp)]
  exact World.alloc_heap_new _ _
 have L:w2.heap[w.heap.size+1+1]?=some (.cells #[.int .i64 2,.string (zb t.s),.int .i64 t.n,.int .i64 t.line,.int .i64 t.at0] 66):=by
  have V:=World.alloc_heap_new ((w.alloc Zu).alloc (ZK t)) (.cells #[.int .i64 2,.string (zb t.s),.int .i64 t.n,.int .i64 t.line,.int .i64 t.at0] 66);rw [←y,show ((w.alloc Zu).alloc (ZK t)).heap.size=w.heap.size+1+1 by simp] at V
  exact V
 have H:w.heap.size+1+1<w2.heap.size:=(Array.getElem?_eq_some_iff.1 L).1;have D:Hid (w2=((w.alloc Zu).alloc (ZK t)).alloc (.cells #[.int .i64 2,.string (zb t.s),.int .i64 t.n,.int .i64 t.line,.int .i64 t.at0] 66)):=y;clear h I y;have Q:=vx r g o cap t ts w2 K hne
 go_enter Tryz.func180,Tryz.ntmps180
 go_wp2_with fail
 refine T.mono ?_;clear T;rintro e w1 ⟨rfl,rfl⟩;simp only [VP];go_wp2_with fail
 rw [←D.out];refine Q.mono ?_;clear Q D;rintro e w3 ⟨rfl,z⟩;have R:zd r w w3:=by rw [z];exact O.setCell 0 _
 have A:zd r w2 w3:=by rw [z];exact (zd.refl r w2).setCell 0 _
 have W:zf r g (o+5) (cap-1) ts w3:=by rw [z];exact K.next
 have N:=(A.block _ (Array.getElem?_eq_some_iff.1 J).1 (by omega)).trans J
 have U:=(A.block _ H (by omega)).trans L
 obtain ⟨c0,c1,c2,c3,c4,-⟩:=zR U;obtain ⟨q0,q1,q2,q3,q4,qf⟩:=zR N;obtain ⟨Z,z1,Y,z3,z4⟩:=zT N (.int .i64 1) (.string ⟨#[]⟩) (.int .i64 t.n) (.slice none 0 0) (.int .i64 t.line)
 have HP:Hid (zH r g w (.ok (.mk 1 [] t.n [] t.line,ts)) (.returned (.agg #[.int .i64 1,(.string ⟨#[]⟩),(.int .i64 t.n),.slice none 0 0,.int .i64 t.line])) (set5 w3 w.heap.size (.int .i64 1) (.string ⟨#[]⟩) (.int .i64 t.n) (.slice none 0 0) (.int .i64 t.line))) :=
  zH.of_set5 (B:=w.heap.size+1) 1 [] t.n t.line R (Nat.le_refl _) hr G (.inl ⟨rfl,rfl⟩) (Nat.lt_succ_self _) W
 clear R A W N U J L K O z;go_wp2
 exact bodyPost_ret (v:=.agg #[.int .i64 1,(.string ⟨#[]⟩),(.int .i64 t.n),.slice none 0 0,.int .i64 t.line]) (by simp [results,Tryz.results180,go_sem,Z,z1,Y,z3,z4]) rfl HP.out
theorem QG (r g o cap:Nat) (t:Tk) (ts:List Tk) (w:World) (h:zf r g o cap (t::ts) w) (hk:t.k=3) (hne:ts≠[]) :
  Calls Tryz.prog 180 #[.pointer (some ⟨r,0,none⟩)] w (zH r g w (.ok (.mk 3 t.s 0 [] t.line,ts))):=by
 have hr:=h.lt.1;have G:=h.lt.2;have I:=h.alloc Zu;have T:=Z3 r g o cap t ts _ I;obtain ⟨w2,y⟩:∃w2,w2=((w.alloc Zu).alloc (ZK t)).alloc (.cells #[.int .i64 3,.string (zb t.s),.int .i64 t.n,.int .i64 t.line,.int .i64 t.at0] 66):=⟨_,rfl⟩;have K:zf r g o cap (t::ts) w2:=by rw [y];exact (I.alloc _).alloc _
 have O:zd r w w2:=by rw [y];exact (((zd.refl r w).alloc _).alloc _).alloc _
 have J:w2.heap[w.heap.size]?=some Zu:=by
  rw [y,Below.heap_alloc _ _ _ (by simp;omega),Below.heap_alloc _ _ _ (by simp)]
  exact World.alloc_heap_new _ _
 have L:w2.heap[w.heap.size+1+1]?=some (.cells #[.int .i64 3,.string (zb t.s),.int .i64 t.n,.int .i64 t.line,.int .i64 t.at0] 66):=by
  have V:=World.alloc_heap_new ((w.alloc Zu).alloc (ZK t)) (.cells #[.int .i64 3,.string (zb t.s),.int .i64 t.n,.int .i64 t.line,.int .i64 t.at0] 66);rw [←y,show ((w.alloc Zu).alloc (ZK t)).heap.size=w.heap.size+1+1 by simp] at V
  exact V
 have H:w.heap.size+1+1<w2.heap.size:=(Array.getElem?_eq_some_iff.1 L).1;have D:Hid (w2=((w.alloc Zu).alloc (ZK t)).alloc (.cells #[.int .i64 3,.string (zb t.s),.int .i64 t.n,.int .i64 t.line,.int .i64 t.at0] 66)):=y;clear h I y;have Q:=vx r g o cap t ts w2 K hne
 go_enter Tryz.func180,Tryz.ntmps180
 go_wp2_with fail
 refine T.mono ?_;clear T;rintro e w1 ⟨rfl,rfl⟩;simp only [VP];go_wp2_with fail
 rw [←D.out];refine Q.mono ?_;clear Q D;rintro e w3 ⟨rfl,z⟩;have R:zd r w w3:=by rw [z];exact O.setCell 0 _
 have A:zd r w2 w3:=by rw [z];exact (zd.refl r w2).setCell 0 _
 have W:zf r g (o+5) (cap-1) ts w3:=by rw [z];exact K.next
 have N:=(A.block _ (Array.getElem?_eq_some_iff.1 J).1 (by omega)).trans J
 have U:=(A.block _ H (by omega)).trans L
 obtain ⟨c0,c1,c2,c3,c4,-⟩:=zR U;obtain ⟨q0,q1,q2,q3,q4,qf⟩:=zR N;obtain ⟨Z,z1,Y,z3,z4⟩:=zT N (.int .i64 3) (.string (zb t.s)) (.int .i64 0) (.slice none 0 0) (.int .i64 t.line)
 have HP:Hid (zH r g w (.ok (.mk 3 t.s 0 [] t.line,ts)) (.returned (.agg #[.int .i64 3,(.string (zb t.s)),(.int .i64 0),.slice none 0 0,.int .i64 t.line])) (set5 w3 w.heap.size (.int .i64 3) (.string (zb t.s)) (.int .i64 0) (.slice none 0 0) (.int .i64 t.line))) :=
  zH.of_set5 (B:=w.heap.size+1) 3 t.s 0 t.line R (Nat.le_refl _) hr G (.inl ⟨rfl,rfl⟩) (Nat.lt_succ_self _) W
 clear R A W N U J L K O z;go_wp2
 exact bodyPost_ret (v:=.agg #[.int .i64 3,(.string (zb t.s)),(.int .i64 0),.slice none 0 0,.int .i64 t.line]) (by simp [results,Tryz.results180,go_sem,Z,z1,Y,z3,z4]) rfl HP.out
theorem qC (r g o cap:Nat) (t:Tk) (ts:List Tk) (w:World) (res:PR Ex) (h:zf r g o cap (t::ts) w) (hk:t.k=1)
  (hn:∀H,zf r g o cap (t::ts) H→zd r w H→Calls Tryz.prog 194 #[.pointer (some ⟨r,0,none⟩)] H (zH r g H res)) :
  Calls Tryz.prog 180 #[.pointer (some ⟨r,0,none⟩)] w (zH r g w res):=by
 have hr:=h.lt.1;have N:=h.lt.2;have R:=h.alloc Zu;have W:=Z3 r g o cap t ts _ R;obtain ⟨w2,y⟩:∃w2,w2=((w.alloc Zu).alloc (ZK t)).alloc (.cells #[.int .i64 1,.string (zb t.s),.int .i64 t.n,.int .i64 t.line,.int .i64 t.at0] 66):=⟨_,rfl⟩;have Z:zf r g o cap (t::ts) w2:=by rw [y];exact (R.alloc _).alloc _
 have O:zd r w w2:=by rw [y];exact (((zd.refl r w).alloc _).alloc _).alloc _
 have T:w2.heap[w.heap.size]?=some Zu:=by
  rw [y,Below.heap_alloc _ _ _ (by simp;omega),Below.heap_alloc _ _ _ (by simp)]
  exact World.alloc_heap_new _ _
 have n2:w2.heap[w.heap.size+1+1]?=some (.cells #[.int .i64 1,.string (zb t.s),.int .i64 t.n,.int .i64 t.line,.int .i64 t.at0] 66):=by
  have D:=World.alloc_heap_new ((w.alloc Zu).alloc (ZK t)) (.cells #[.int .i64 1,.string (zb t.s),.int .i64 t.n,.int .i64 t.line,.int .i64 t.at0] 66);rw [←y,show ((w.alloc Zu).alloc (ZK t)).heap.size=w.heap.size+1+1 by simp] at D
  exact D
 have aa:w.heap.size+1+1<w2.heap.size:=(Array.getElem?_eq_some_iff.1 n2).1;have G:Hid (w2=((w.alloc Zu).alloc (ZK t)).alloc (.cells #[.int .i64 1,.string (zb t.s),.int .i64 t.n,.int .i64 t.line,.int .i64 t.at0] 66)):=y;clear h R y;have V:=hn w2 Z O;clear hn
 go_enter Tryz.func180,Tryz.ntmps180
 go_wp2_with fail
 refine W.mono ?_;clear W;rintro e H ⟨rfl,rfl⟩;simp only [VP];go_wp2_with fail
 rw [←G.out];refine V.mono ?_;clear V G;rintro e w3 ⟨A,z⟩;have Q:zd r w w3:=O.trans A;rcases res with a | ⟨x,us⟩
 ·obtain rfl:=z
  exact ⟨rfl,Q,rfl⟩
 ·obtain ⟨v,o3,Y,rfl,D,I⟩:=z
  obtain ⟨a,b,c,K,J,L,l,rfl⟩:=D.agg;have U:=(A.block _ (Array.getElem?_eq_some_iff.1 T).1 (by omega)).trans T
  obtain ⟨q0,q1,q2,q3,q4,qf⟩:=zR U;obtain ⟨z0,z1,z2,z3,z4⟩:=zT U (.int .i64 a) (.string b) (.int .i64 c) (.slice K J L) (.int .i64 l)
  have HP:Hid (zH r g w (.ok (x,us)) (.returned (.agg #[.int .i64 a,.string b,.int .i64 c,.slice K J L,.int .i64 l])) (set5 w3 w.heap.size (.int .i64 a) (.string b) (.int .i64 c) (.slice K J L) (.int .i64 l))) :=
   zH.of_set5' Q (Nat.le_refl _) hr N D (by omega) I
  clear Q A U T n2 Z O D I;go_wp2
  exact bodyPost_ret (v:=.agg #[.int .i64 a,.string b,.int .i64 c,.slice K J L,.int .i64 l]) (by simp [results,Tryz.results180,go_sem,z0,z1,z2,z3,z4]) rfl HP.out
theorem qD (r g o cap:Nat) (t:Tk) (ts:List Tk) (w:World) (hi:zo t [116,114,117,101]=true) (h:zf r g o cap (t::ts) w) (hE:zg (t::ts)) (hk1:t.k≠1) (hk2:t.k≠2) (hk3:t.k≠3)  :
  Calls Tryz.prog 180 #[.pointer (some ⟨r,0,none⟩)] w (zH r g w (.ok (.mk 2 [] 1 [] t.line,ts))):=by
 have hr:=h.lt.1;have J:=h.lt.2;have O:=h.alloc Zu;have Y:=Z3 r g o cap t ts _ O;obtain ⟨w2,s⟩:∃w2,w2=((w.alloc Zu).alloc (ZK t)).alloc (ZK t):=⟨_,rfl⟩;have h2:zf r g o cap (t::ts) w2:=by rw [s];exact (O.alloc _).alloc _
 have V:zd r w w2:=by rw [s];exact (((zd.refl r w).alloc _).alloc _).alloc _
 have Z:w2.heap[w.heap.size]?=some Zu:=by
  rw [s,Below.heap_alloc _ _ _ (by simp;omega),Below.heap_alloc _ _ _ (by simp)]
  exact World.alloc_heap_new _ _
 have R:w2.heap[w.heap.size+1+1]?=some (ZK t):=by
  have hx:=World.alloc_heap_new ((w.alloc Zu).alloc (ZK t)) (ZK t);rw [←s,show ((w.alloc Zu).alloc (ZK t)).heap.size=w.heap.size+1+1 by simp] at hx
  exact hx
 have L:w.heap.size+1+1<w2.heap.size:=(Array.getElem?_eq_some_iff.1 R).1;have I:Hid (w2=((w.alloc Zu).alloc (ZK t)).alloc (ZK t)):=s;have Q:Hid (zd r w w2):=V;have K:Hid (w2.heap[w.heap.size]?=some Zu):=Z;have T:Hid (w2.heap[w.heap.size+1+1]?=some (ZK t)):=R;have aa:¬(t.k:Int)=1:=by omega
 have W:¬(t.k:Int)=2:=by omega
 have ab:¬(t.k:Int)=3:=by omega
 clear h O s V Z R
 go_enter Tryz.func180,Tryz.ntmps180
 go_wp2_with fail
 refine Y.mono ?_;clear Y;rintro e w1 ⟨rfl,rfl⟩;simp only [VP];have D:Hid (zd r w2 w2):=zd.refl r w2;have G:Hid (zf r g o cap (t::ts) w2):=h2;clear h2;have N:=Zt r g o cap t ts [116,114,117,101] w2 G.out (fun hi=>(hE.tail (zi hi)).ne)
 rw [hi] at N;go_wp2_with fail
 rw [←I.out];refine N.mono ?_;clear N;rintro e w9 ⟨rfl,H,z⟩;have y:zd r w2 w9:=D.out.trans H;have A:zf r g (o+5) (cap-1) ts w9:=by simpa using z
 have U:=(y.block _ (by omega) (by omega)).trans K.out
 have p2:=(y.block _ L (by omega)).trans T.out
 obtain ⟨c0,c1,c2,c3,c4,-⟩:=zR p2;obtain ⟨q0,q1,q2,q3,q4,qf⟩:=zR U;obtain ⟨z0,z1,z2,z3,z4⟩:=zT U (.int .i64 2) (.string ⟨#[]⟩) (.int .i64 1) (.slice none 0 0) (.int .i64 t.line)
 have HP:Hid (zH r g w (.ok (.mk 2 [] 1 [] t.line,ts)) (.returned (.agg #[.int .i64 2,.string ⟨#[]⟩,.int .i64 1,.slice none 0 0,.int .i64 t.line])) (set5 w9 w.heap.size (.int .i64 2) (.string ⟨#[]⟩) (.int .i64 1) (.slice none 0 0) (.int .i64 t.line))) :=
  zH.of_set5 (B:=w.heap.size+1) 2 [] 1 t.line (Q.out.trans y) (Nat.le_refl _) hr J (.inl ⟨rfl,rfl⟩) (Nat.lt_succ_self _) A
 clear y A U p2 H z;go_wp2
 exact bodyPost_ret (v:=.agg #[.int .i64 2,.string ⟨#[]⟩,.int .i64 1,.slice none 0 0,.int .i64 t.line]) (by simp [results,Tryz.results180,go_sem,z0,z1,z2,z3,z4]) rfl HP.out
theorem Ux (r g o cap:Nat) (t:Tk) (ts:List Tk) (w:World) (hi:zo t [102,97,108,115,101]=true) (h:zf r g o cap (t::ts) w) (hE:zg (t::ts)) (hk1:t.k≠1) (hk2:t.k≠2) (hk3:t.k≠3) (hiT:zo t [116,114,117,101]=false) :
  Calls Tryz.prog 180 #[.pointer (some ⟨r,0,none⟩)] w (zH r g w (.ok (.mk 2 [] 0 [] t.line,ts))):=by
 have hr:=h.lt.1;have N:=h.lt.2;have T:=h.alloc Zu;have ch:=Z3 r g o cap t ts _ T;obtain ⟨w2,s⟩:∃w2,w2=((w.alloc Zu).alloc (ZK t)).alloc (ZK t):=⟨_,rfl⟩;have h2:zf r g o cap (t::ts) w2:=by rw [s];exact (T.alloc _).alloc _
 have Z:zd r w w2:=by rw [s];exact (((zd.refl r w).alloc _).alloc _).alloc _
 have n0:w2.heap[w.heap.size]?=some Zu:=by
  rw [s,Below.heap_alloc _ _ _ (by simp;omega),Below.heap_alloc _ _ _ (by simp)]
  exact World.alloc_heap_new _ _
 have V:w2.heap[w.heap.size+1+1]?=some (ZK t):=by
  have hx:=World.alloc_heap_new ((w.alloc Zu).alloc (ZK t)) (ZK t);rw [←s,show ((w.alloc Zu).alloc (ZK t)).heap.size=w.heap.size+1+1 by simp] at hx
  exact hx
 have Q:w.heap.size+1+1<w2.heap.size:=(Array.getElem?_eq_some_iff.1 V).1;have I:Hid (w2=((w.alloc Zu).alloc (ZK t)).alloc (ZK t)):=s;have U:Hid (zd r w w2):=Z;have O:Hid (w2.heap[w.heap.size]?=some Zu):=n0;have W:Hid (w2.heap[w.heap.size+1+1]?=some (ZK t)):=V;have ab:¬(t.k:Int)=1:=by omega
 have aa:¬(t.k:Int)=2:=by omega
 have ad:¬(t.k:Int)=3:=by omega
 clear h T s Z n0 V
 go_enter Tryz.func180,Tryz.ntmps180
 go_wp2_with fail
 refine ch.mono ?_;clear ch;rintro e w1 ⟨rfl,rfl⟩;simp only [VP];have D:Hid (zd r w2 w2):=zd.refl r w2;have G:Hid (zf r g o cap (t::ts) w2):=h2;clear h2;have H:=Zt r g o cap t ts [116,114,117,101] w2 G.out (fun hi=>(hE.tail (zi hi)).ne)
 rw [hiT] at H;go_wp2_with fail
 rw [←I.out];refine H.mono ?_;clear H;rintro e R ⟨rfl,z,y⟩;have L:Hid (zd r w2 R):=D.out.trans z;have K:Hid (zf r g o cap (t::ts) R):=show zf _ _ _ _ _ _ by simpa using y
 clear z y D G;clear I;have H:=Zt r g o cap t ts [102,97,108,115,101] R K.out (fun hi=>(hE.tail (zi hi)).ne)
 rw [hi] at H;go_wp2_with fail
 refine H.mono ?_;clear H;rintro e w9 ⟨rfl,z,y⟩;have A:zd r w2 w9:=L.out.trans z;have J:zf r g (o+5) (cap-1) ts w9:=by simpa using y
 have Y:=(A.block _ (by omega) (by omega)).trans O.out
 have p2:=(A.block _ Q (by omega)).trans W.out
 obtain ⟨c0,c1,c2,c3,c4,-⟩:=zR p2;obtain ⟨q0,q1,q2,q3,q4,qf⟩:=zR Y;obtain ⟨z0,z1,z2,z3,z4⟩:=zT Y (.int .i64 2) (.string ⟨#[]⟩) (.int .i64 0) (.slice none 0 0) (.int .i64 t.line)
 have HP:Hid (zH r g w (.ok (.mk 2 [] 0 [] t.line,ts)) (.returned (.agg #[.int .i64 2,.string ⟨#[]⟩,.int .i64 0,.slice none 0 0,.int .i64 t.line])) (set5 w9 w.heap.size (.int .i64 2) (.string ⟨#[]⟩) (.int .i64 0) (.slice none 0 0) (.int .i64 t.line))) :=
  zH.of_set5 (B:=w.heap.size+1) 2 [] 0 t.line (U.out.trans A) (Nat.le_refl _) hr N (.inl ⟨rfl,rfl⟩) (Nat.lt_succ_self _) J
 clear A J Y p2 z y;go_wp2
 exact bodyPost_ret (v:=.agg #[.int .i64 2,.string ⟨#[]⟩,.int .i64 0,.slice none 0 0,.int .i64 t.line]) (by simp [results,Tryz.results180,go_sem,z0,z1,z2,z3,z4]) rfl HP.out
def xK (t:Tk) (res:PR Ex):PR Ex :=
 if zo t [40]=true then
  match res with
  | .error a=>.error a
  | .ok (e,us)=>if zo (zw us) [41]=true then .ok (e,us.tail) else .error (zw us).at0
 else .error t.at0
theorem X6 (r g o cap:Nat) (t:Tk) (ts:List Tk) (w:World) (res:PR Ex) (hEnd:∀l us,res=.ok (l,us)→zg us) (hex:zo t [40]=true→∀w1 o1 cap1,zf r g o1 cap1 ts w1→zd r w w1→Calls Tryz.prog 44 #[.pointer (some ⟨r,0,none⟩)] w1 (zH r g w1 res)) (h:zf r g o cap (t::ts) w) (hE:zg (t::ts)) (hk1:t.k≠1) (hk2:t.k≠2) (hk3:t.k≠3) (hiT:zo t [116,114,117,101]=false) (hiF:zo t [102,97,108,115,101]=false) (hiN:zo t [110,101,119]=false) (hiB:zo t [91]=false) :
  Calls Tryz.prog 180 #[.pointer (some ⟨r,0,none⟩)] w (zH r g w (xK t res)):=by
 generalize hres:xK t res=R;have hr:=h.lt.1;have aD:=h.lt.2;have h0:=h.alloc Zu;have ch:=Z3 r g o cap t ts _ h0;obtain ⟨w2,I⟩:∃w2,w2=((w.alloc Zu).alloc (ZK t)).alloc (ZK t):=⟨_,rfl⟩;have h2:zf r g o cap (t::ts) w2:=by rw [I];exact (h0.alloc _).alloc _
 have k2:zd r w w2:=by rw [I];exact (((zd.refl r w).alloc _).alloc _).alloc _
 have n0:w2.heap[w.heap.size]?=some Zu:=by
  rw [I,Below.heap_alloc _ _ _ (by simp;omega),Below.heap_alloc _ _ _ (by simp)]
  exact World.alloc_heap_new _ _
 have n2:w2.heap[w.heap.size+1+1]?=some (ZK t):=by
  have hx:=World.alloc_heap_new ((w.alloc Zu).alloc (ZK t)) (ZK t);rw [←I,show ((w.alloc Zu).alloc (ZK t)).heap.size=w.heap.size+1+1 by simp] at hx
  exact hx
 have aI:w.heap.size+1+1<w2.heap.size:=(Array.getElem?_eq_some_iff.1 n2).1;have ax:Hid (w2=((w.alloc Zu).alloc (ZK t)).alloc (ZK t)):=I;have T:Hid (zd r w w2):=k2;have aC:Hid (w2.heap[w.heap.size]?=some Zu):=n0;have aK:Hid (w2.heap[w.heap.size+1+1]?=some (ZK t)):=n2;have aG:¬(t.k:Int)=1:=by omega
 have aF:¬(t.k:Int)=2:=by omega
 have aE:¬(t.k:Int)=3:=by omega
 clear h h0 I k2 n0 n2
 go_enter Tryz.func180,Tryz.ntmps180
 go_wp2_with fail
 refine ch.mono ?_;clear ch;rintro e w1 ⟨rfl,rfl⟩;simp only [VP];have W:Hid (zd r w2 w2):=zd.refl r w2;have aa:Hid (zf r g o cap (t::ts) w2):=h2;clear h2;have D:=Zt r g o cap t ts [116,114,117,101] w2 aa.out (fun hi=>(hE.tail (zi hi)).ne)
 rw [hiT] at D;go_wp2_with fail
 rw [←ax.out];refine D.mono ?_;clear D;rintro e w3 ⟨rfl,s,y⟩;have ak:Hid (zd r w2 w3):=W.out.trans s;have Y:Hid (zf r g o cap (t::ts) w3):=show zf _ _ _ _ _ _ by simpa using y
 clear s y W aa;clear ax;have D:=Zt r g o cap t ts [102,97,108,115,101] w3 Y.out (fun hi=>(hE.tail (zi hi)).ne)
 rw [hiF] at D;go_wp2_with fail
 refine D.mono ?_;clear D;rintro e w4 ⟨rfl,s,y⟩;have Z:Hid (zd r w2 w4):=ak.out.trans s;have ae:Hid (zf r g o cap (t::ts) w4):=show zf _ _ _ _ _ _ by simpa using y
 clear s y ak Y;have D:=Zt r g o cap t ts [110,101,119] w4 ae.out (fun hi=>(hE.tail (zi hi)).ne)
 rw [hiN] at D;go_wp2_with fail
 refine D.mono ?_;clear D;rintro e w5 ⟨rfl,s,y⟩;have af:Hid (zd r w2 w5):=Z.out.trans s;have al:Hid (zf r g o cap (t::ts) w5):=show zf _ _ _ _ _ _ by simpa using y
 clear s y Z ae;have D:=Zt r g o cap t ts [91] w5 al.out (fun hi=>(hE.tail (zi hi)).ne)
 rw [hiB] at D;go_wp2_with fail
 refine D.mono ?_;clear D;rintro e w6 ⟨rfl,s,y⟩;have N:Hid (zd r w2 w6):=af.out.trans s;have aj:Hid (zf r g o cap (t::ts) w6):=show zf _ _ _ _ _ _ by simpa using y
 clear s y af al;have H:=yB r g o cap t ts [40] w6 aj.out (fun hi=>(hE.tail (zi hi)).ne)
 by_cases hi:zo t [40]=true
 ·simp only [if_pos hi] at H
  go_wp2_with fail
  refine H.mono ?_;clear H;rintro e w9 ⟨s,rfl,av⟩;have an:zd r w2 w9:=N.out.trans s;have c9:=hex hi w9 _ _ av (T.out.trans an);have au:Hid (zd r w2 w9):=an;clear hex s av an N aj;go_wp2_with fail
  refine c9.mono ?_;clear c9;rintro e G ⟨K,O⟩;have ag:Hid (zd r w2 G):=au.out.trans K;rcases res with a | ⟨x,us⟩
  ·obtain rfl:=O
   obtain rfl:R=.error a:=by rw [←hres];unfold xK;rw [if_pos hi]
   exact ⟨rfl,T.out.trans ag.out,rfl⟩
  ·obtain ⟨v,o3,ai,rfl,hx,aw⟩:=O
   obtain ⟨a,b,c,J,Q,L,l,rfl⟩:=hx.agg;have az:=hEnd x us rfl;obtain ⟨t3,V,rfl⟩:=az.cons;obtain ⟨w11,A⟩:∃w11,w11=G.alloc (.cells #[.int .i64 a,.string b,.int .i64 c,.slice J Q L,.int .i64 l] 45):=⟨_,rfl⟩;have aA:zf r g o3 ai (t3::V) w11:=by rw [A];exact aw.alloc _
   have ap:w11.heap[G.heap.size]?=some (.cells #[.int .i64 a,.string b,.int .i64 c,.slice J Q L,.int .i64 l] 45 (0,0)):=by rw [A];exact World.alloc_heap_new _ _
   have am:Hid (zd r w2 w11):=show zd _ _ _ by rw [A];exact ag.out.alloc _
   have ah:ZL w9.heap.size w11 x (.agg #[.int .i64 a,.string b,.int .i64 c,.slice J Q L,.int .i64 l]):=by rw [A];exact ZL.kept hx (by simp) fun k _ hlt=>Below.heap_alloc _ _ _ hlt
   have ay:Hid (ZL w9.heap.size w11 x (.agg #[.int .i64 a,.string b,.int .i64 c,.slice J Q L,.int .i64 l])):=ah;have aB:Hid (w11.heap[G.heap.size]?=some (.cells #[.int .i64 a,.string b,.int .i64 c,.slice J Q L,.int .i64 l] 45 (0,0))):=ap;have H:=yB r g o3 ai t3 V [41] w11 aA (fun hi=>(az.tail (zi hi)).ne)
   have U:Hid (w11=G.alloc (.cells #[.int .i64 a,.string b,.int .i64 c,.slice J Q L,.int .i64 l] 45)):=A;have aJ:=au.out.size;have aH:=K.size;have ao:G.heap.size<w11.heap.size:=(Array.getElem?_eq_some_iff.1 ap).1;clear A aA ap ah hx aw K
   by_cases hm:zo t3 [41]=true
   ·simp only [if_pos hm] at H
    obtain rfl:R=.ok (x,V):=by rw [←hres];unfold xK;rw [if_pos hi];simp only [zz,hm,if_true,List.tail_cons]
    go_wp2_with fail
    rw [←U.out];refine H.mono ?_;clear H U;rintro e aq ⟨z,rfl,ad⟩;have ar:=am.out.trans z;have p0:=(ar.block _ (by omega) (by omega)).trans aC.out
    have pB:=(z.block _ ao (by omega)).trans aB.out
    obtain ⟨c0,c1,c2,c3,c4,-⟩:=zR pB;obtain ⟨q0,q1,q2,q3,q4,qf⟩:=zR p0;obtain ⟨z0,z1,z2,z3,z4⟩:=zT p0 (.int .i64 a) (.string b) (.int .i64 c) (.slice J Q L) (.int .i64 l);have ab:ZL w9.heap.size aq x (.agg #[.int .i64 a,.string b,.int .i64 c,.slice J Q L,.int .i64 l]):=ZL.kept ay.out z.size fun k hB hlt=>z.block k hlt (by omega)
    have HP:Hid (zH r g w (.ok (x,V)) (.returned (.agg #[.int .i64 a,.string b,.int .i64 c,.slice J Q L,.int .i64 l])) (set5 aq w.heap.size (.int .i64 a) (.string b) (.int .i64 c) (.slice J Q L) (.int .i64 l))) :=
     zH.of_set5' (T.out.trans ar) (Nat.le_refl _) hr aD ab (by omega) ad
    clear ar z ad p0 pB ab;go_wp2
    exact bodyPost_ret (v:=.agg #[.int .i64 a,.string b,.int .i64 c,.slice J Q L,.int .i64 l]) (by simp [results,Tryz.results180,go_sem,z0,z1,z2,z3,z4]) rfl HP.out
   ·simp only [if_neg hm] at H
    obtain rfl:R=.error t3.at0:=by rw [←hres];unfold xK;rw [if_pos hi];simp only [zz,if_neg hm]
    go_wp2_with fail
    rw [←U.out];refine H.mono ?_;clear H;rintro e aq ⟨z,rfl⟩;exact ⟨rfl,T.out.trans (am.out.trans z),rfl⟩
 ·simp only [if_neg hi] at H
  obtain rfl:R=.error t.at0:=by rw [←hres];unfold xK;rw [if_neg hi]
  clear hex hEnd;go_wp2_with fail
  refine H.mono ?_;clear H;rintro e w9 ⟨s,rfl⟩;exact ⟨rfl,T.out.trans (N.out.trans s),rfl⟩
end Go.Proofs.YtpejpbbdgblbeaaGreatDoor
