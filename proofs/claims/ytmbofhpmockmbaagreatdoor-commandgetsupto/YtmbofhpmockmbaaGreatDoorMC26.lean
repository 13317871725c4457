import Derived.Test.YtmbofhpmockmbaaGreatDoorMC24
import Derived.Test.YtmbofhpmockmbaaGreatDoorSUnary
namespace Go.Proofs.YtmbofhpmockmbaaGreatDoor
open Go.RowKit Go.Shelf
set_option maxHeartbeats 16000000
set_option maxRecDepth 100000
theorem vM (r g o cap:Nat) (t:Tk) (ts:List Tk) (w:World) (res:PR Ex) (h:zc r g o cap (t::ts) w) (hs:¬(t.k=4∧(t.s=[45]∨t.s=[33])))
  (hwp:∀Q,zc r g o cap (t::ts) Q→zb r w Q→Calls Tryz.prog 147 #[.pointer (some ⟨r,0,none⟩)] Q (zl r g Q res)) :
  Calls Tryz.prog 119 #[.pointer (some ⟨r,0,none⟩)] w (zl r g w res):=by
 have hr:=h.lt.1;have ad:=h.lt.2;have V:=fun w=>xH t.s w
 have Z:=h.alloc zE;have ch:=Zk r g o cap t ts _ Z;obtain ⟨w2,I⟩:∃w2,w2=((w.alloc zE).alloc (zJ t)).alloc (zJ t):=⟨_,rfl⟩;have h2:zc r g o cap (t::ts) w2:=by rw [I];exact (Z.alloc _).alloc _
 have k2:zb r w w2:=by rw [I];exact (((zb.refl r w).alloc _).alloc _).alloc _
 have W:=hwp w2 h2 k2
 have X:w2.heap[w.heap.size]?=some zE:=by
  rw [I,Below.heap_alloc _ _ _ (by simp;omega),Below.heap_alloc _ _ _ (by simp)]
  exact World.alloc_heap_new _ _
 have O:w.heap.size<w2.heap.size:=(Array.getElem?_eq_some_iff.1 X).1;have R:Hid (w2.heap[w.heap.size]?=some zE):=X;have L:Hid (zb r w w2):=k2;have K:Hid (w2=((w.alloc zE).alloc (zJ t)).alloc (zJ t)):=I;clear h Z h2 k2 I hwp X
 have T:∀e z,zl r g w2 res e z→(∃a,res=.error a∧e=Zv a∧zb r w z)∨∃(x:Ex) (J:List Tk) (a:Int) (b:ByteArray) (c:Int) (D:Option Addr) (E A:Nat) (l:Int),res=.ok (x,J)∧e=.returned (.agg #[.int .i64 a,.string b,.int .i64 c,.slice D E A,.int .i64 l])∧z.heap[w.heap.size]?=some zE ∧
   zl r g w (.ok (x,J)) (.returned (.agg #[.int .i64 a,.string b,.int .i64 c,.slice D E A,.int .i64 l])) (set5 z w.heap.size (.int .i64 a) (.string b) (.int .i64 c) (.slice D E A) (.int .i64 l)):=by
  rintro e z ⟨M,y⟩;rcases res with a | ⟨x,J⟩
  ·exact .inl ⟨a,rfl,y,L.out.trans M⟩
  ·obtain ⟨v,o3,ae,rfl,hx,aa⟩:=y
   obtain ⟨a,b,c,D,E,A,l,rfl⟩:=hx.agg;exact .inr ⟨x,J,a,b,c,D,E,A,l,rfl,rfl,(M.block _ O (by omega)).trans R.out,zl.of_set5' (L.out.trans M) (Nat.le_refl _) hr ad hx O aa⟩
 have H:Hid (∀e z,zl r g w2 res e z→(∃a,res=.error a∧e=Zv a∧zb r w z)∨∃(x:Ex) (J:List Tk) (a:Int) (b:ByteArray) (c:Int) (D:Option Addr) (E A:Nat) (l:Int),res=.ok (x,J)∧e=.returned (.agg #[.int .i64 a,.string b,.int .i64 c,.slice D E A,.int .i64 l])∧z.heap[w.heap.size]?=some zE ∧
   zl r g w (.ok (x,J)) (.returned (.agg #[.int .i64 a,.string b,.int .i64 c,.slice D E A,.int .i64 l])) (set5 z w.heap.size (.int .i64 a) (.string b) (.int .i64 c) (.slice D E A) (.int .i64 l))):=T
 clear T R L O
 go_enter Tryz.func119,Tryz.ntmps119
 go_wp2_with fail
 refine ch.mono ?_;clear ch;rintro e Q ⟨rfl,rfl⟩;simp only [xT]
 by_cases h4:t.k=4
 ·have hb:(t.s==[45]||t.s==[33])=false:=by
   rw [Bool.or_eq_false_iff,beq_eq_false_iff_ne,beq_eq_false_iff_ne];exact ⟨fun e=>hs ⟨h4,.inl e⟩,fun e=>hs ⟨h4,.inr e⟩⟩
  simp only [hb] at V;have ab:(t.k:Int)=4:=by omega
  go_wp2_with (go_at_call 146;refine (V _).mono ?_;rintro e Q ⟨rfl,rfl⟩)
  have hO:zJ t=.cells #[.int .i64 4,.string (za t.s),.int .i64 t.n,.int .i64 t.line,.int .i64 t.at0] 142:=by simp only [zJ,h4];rfl
  rw [show ((w.alloc zE).alloc (zJ t)).alloc (.cells #[.int .i64 4,.string (za t.s),.int .i64 t.n,.int .i64 t.line,.int .i64 t.at0] 142)=w2 by rw [←hO];exact K.out.symm]
  refine W.mono ?_;clear W V K;intro e z y;rcases H.out e z y with ⟨a,rfl,rfl,hk⟩ | ⟨x,J,a,b,c,D,E,A,l,rfl,rfl,G,U⟩
  ·exact ⟨rfl,hk,rfl⟩
  ·obtain ⟨z0,z1,z2,z3,Y⟩:=zr G (.int .i64 a) (.string b) (.int .i64 c) (.slice D E A) (.int .i64 l)
   have q0:z.cell? ⟨w.heap.size,0,none⟩=some (.int .i64 0):=by simp only [World.cell?,G];rfl
   have q1:z.cell? ⟨w.heap.size,1,none⟩=some (.string ⟨#[]⟩):=by simp only [World.cell?,G];rfl
   have q2:z.cell? ⟨w.heap.size,2,none⟩=some (.int .i64 0):=by simp only [World.cell?,G];rfl
   have q3:z.cell? ⟨w.heap.size,3,none⟩=some (.slice none 0 0):=by simp only [World.cell?,G];rfl
   have q4:z.cell? ⟨w.heap.size,4,none⟩=some (.int .i64 0):=by simp only [World.cell?,G];rfl
   have qf:∀j,z.frozen? ⟨w.heap.size,j,none⟩=false:=fun j=>by simp only [World.frozen?,G];simp
   have HP:Hid (zl r g w (.ok (x,J)) (.returned (.agg #[.int .i64 a,.string b,.int .i64 c,.slice D E A,.int .i64 l])) (set5 z w.heap.size (.int .i64 a) (.string b) (.int .i64 c) (.slice D E A) (.int .i64 l))):=U;clear H y U G;go_wp2
   exact bodyPost_ret (v:=.agg #[.int .i64 a,.string b,.int .i64 c,.slice D E A,.int .i64 l]) (by simp [results,Tryz.results119,go_sem,z0,z1,z2,z3,Y]) rfl HP.out
 ·have ab:¬(t.k:Int)=4:=by omega
  go_wp2_with fail
  rw [←K.out];refine W.mono ?_;clear W V K;intro e z y;rcases H.out e z y with ⟨a,rfl,rfl,hk⟩ | ⟨x,J,a,b,c,D,E,A,l,rfl,rfl,G,U⟩
  ·exact ⟨rfl,hk,rfl⟩
  ·obtain ⟨z0,z1,z2,z3,Y⟩:=zr G (.int .i64 a) (.string b) (.int .i64 c) (.slice D E A) (.int .i64 l)
   have q0:z.cell? ⟨w.heap.size,0,none⟩=some (.int .i64 0):=by simp only [World.cell?,G];rfl
   have q1:z.cell? ⟨w.heap.size,1,none⟩=some (.string ⟨#[]⟩):=by simp only [World.cell?,G];rfl
   have q2:z.cell? ⟨w.heap.size,2,none⟩=some (.int .i64 0):=by simp only [World.cell?,G];rfl
   have q3:z.cell? ⟨w.heap.size,3,none⟩=some (.slice none 0 0):=by simp only [World.cell?,G];rfl
   have q4:z.cell? ⟨w.heap.size,4,none⟩=some (.int .i64 0):=by simp only [World.cell?,G];rfl
   have qf:∀j,z.frozen? ⟨w.heap.size,j,none⟩=false:=fun j=>by simp only [World.frozen?,G];simp
   have HP:Hid (zl r g w (.ok (x,J)) (.returned (.agg #[.int .i64 a,.string b,.int .i64 c,.slice D E A,.int .i64 l])) (set5 z w.heap.size (.int .i64 a) (.string b) (.int .i64 c) (.slice D E A) (.int .i64 l))):=U;clear H y U G;go_wp2
   exact bodyPost_ret (v:=.agg #[.int .i64 a,.string b,.int .i64 c,.slice D E A,.int .i64 l]) (by simp [results,Tryz.results119,go_sem,z0,z1,z2,z3,Y]) rfl HP.out
theorem yc.kept {r:Nat} {w w':World} (h:yc w) (hk:zb r w w') (hr:r≠5):yc w':=by
 intro i v o;exact hk.cell (p:=⟨5,0+i,none⟩) (fun e=>hr e.symm) (h i v o)
theorem zC.line_eq {S:Nat→Prop} {w:World} {x:Ex} {a b c d:Value} {l:Int} (h:zC S w x (.agg #[a,b,c,d,.int .i64 l])):l=(x.line:Int):=by
 cases h <;> rfl
def zP (r g N F:Nat) (w:World) (res:PR Ex) (p:Nat→Ex→List Tk→Option (PR Ex)) (wr:World):Prop :=
 ∃(e:Ex) (ts:List Tk) (o cap f:Nat) (a:Int) (b:ByteArray) (c:Int) (d0:Option Addr) (d1 d2:Nat) (l:Int),f≤F∧p f e ts=some res∧zk ts∧ts.length≤1099511627776 ∧
  wr.heap[N]?=some (.cells #[.int .i64 a,.string b,.int .i64 c,.slice d0 d1 d2,.int .i64 l] 90 (0,0)) ∧
  zC (fun k=>w.heap.size<k∧k≠N) wr e (.agg #[.int .i64 a,.string b,.int .i64 c,.slice d0 d1 d2,.int .i64 l])∧zc r g o cap ts wr∧zb r w wr∧wr.heap[w.heap.size]?=some zE
theorem Zn {w:World} {N j:Nat} {c:Array Value} {ty:TypeId} {fr:Nat × Nat} (v:Value) (h:w.heap[N]?=some (.cells c ty fr)):(w.setCell ⟨N,j,none⟩ v).heap[N]?=some (.cells (c.setIfInBounds j v) ty fr):=by
 unfold World.setCell
 simp [Array.getElem?_modify,h]
theorem yK {w:World} {N:Nat} {x0 x1 x2 x3 x4:Value} {ty:TypeId} (h:w.heap[N]?=some (.cells #[x0,x1,x2,x3,x4] ty (0,0))) (a b c d e:Value):(set5 w N a b c d e).heap[N]?=some (.cells #[a,b,c,d,e] ty (0,0)) :=
 Zn e (Zn d (Zn c (Zn b (Zn a h))))
theorem zv {w:World} {N:Nat} {x0 x1 x2 x3 x4:Value} {ty:TypeId} (h:w.heap[N]?=some (.cells #[x0,x1,x2,x3,x4] ty (0,0))) :
  w.cell? ⟨N,0,none⟩=some x0∧w.cell? ⟨N,1,none⟩=some x1∧w.cell? ⟨N,2,none⟩=some x2∧w.cell? ⟨N,3,none⟩=some x3∧w.cell? ⟨N,4,none⟩=some x4∧∀j,w.frozen? ⟨N,j,none⟩=false:=by
 refine ⟨?_,?_,?_,?_,?_,fun j=>?_⟩
 ·simp only [World.cell?,h];rfl
 ·simp only [World.cell?,h];rfl
 ·simp only [World.cell?,h];rfl
 ·simp only [World.cell?,h];rfl
 ·simp only [World.cell?,h];rfl
 ·simp only [World.frozen?,h];simp
theorem zP.leave {r g N o cap:Nat} {w wr W:World} {e:Ex} {ts:List Tk} {a:Int} {b:ByteArray} {c:Int} {d0:Option Addr} {d1 d2:Nat} {l:Int} (hr:r<w.heap.size) (hg:g<w.heap.size) (hNw:w.heap.size<N) (hk:zb r w wr)
  (hb:wr.heap[N]?=some (.cells #[.int .i64 a,.string b,.int .i64 c,.slice d0 d1 d2,.int .i64 l] 90 (0,0))) (hz:wr.heap[w.heap.size]?=some zE)
  (hx:zC (fun k=>w.heap.size<k∧k≠N) wr e (.agg #[.int .i64 a,.string b,.int .i64 c,.slice d0 d1 d2,.int .i64 l])) (hK:zb r wr W) (hrd:zc r g o cap ts W) :
  W.heap[N]?=some (.cells #[.int .i64 a,.string b,.int .i64 c,.slice d0 d1 d2,.int .i64 l] 90 (0,0))∧W.heap[w.heap.size]?=some zE ∧
  zl r g w (.ok (e,ts)) (.returned (.agg #[.int .i64 a,.string b,.int .i64 c,.slice d0 d1 d2,.int .i64 l])) (set5 W w.heap.size (.int .i64 a) (.string b) (.int .i64 c) (.slice d0 d1 d2) (.int .i64 l)):=by
 refine ⟨(hK.block _ (Array.getElem?_eq_some_iff.1 hb).1 (by omega)).trans hb,(hK.block _ (Array.getElem?_eq_some_iff.1 hz).1 (by omega)).trans hz,?_⟩
 refine zl.of_set5' (B:=w.heap.size+1) (hk.trans hK) (Nat.le_refl _) hr hg ?_ (Nat.lt_succ_self _) hrd;exact zC.wide (zC.kept hx hK.size fun k hk' hlt=>hK.block k hlt (by omega)) fun k hk'=>hk'.1
theorem zP.start {r g F:Nat} {w w0 w1:World} {res:PR Ex} {p:Nat→Ex→List Tk→Option (PR Ex)} {x:Ex} {us:List Tk} {o cap:Nat} {a:Int} {b:ByteArray} {c:Int} {d0:Option Addr} {d1 d2:Nat} {l:Int} (hw0:w0=w.alloc zE) (hr:r<w.heap.size) (hk:zb r w0 w1)
  (hx:zX w0.heap.size w1 x (.agg #[.int .i64 a,.string b,.int .i64 c,.slice d0 d1 d2,.int .i64 l])) (hrd:zc r g o cap us w1) (hp:p F x us=some res) (hE:zk us) (hN:us.length≤1099511627776) :
  zP r g w1.heap.size F w res p (w1.alloc (.cells #[.int .i64 a,.string b,.int .i64 c,.slice d0 d1 d2,.int .i64 l] 90)):=by
 have z:w0.heap.size=w.heap.size+1:=by rw [hw0];simp
 have y:zb r w w1:=by rw [hw0] at hk;exact ((zb.refl r w).alloc _).trans hk
 obtain ⟨t,ts,rfl⟩:=hE.cons;refine ⟨x,t::ts,o,cap,F,a,b,c,d0,d1,d2,l,Nat.le_refl _,hp,hE,hN,World.alloc_heap_new _ _,?_,hrd.alloc _,y.alloc _,?_⟩
 ·exact zC.wide (zC.kept (zC.low hx) (by simp) fun k hk _=>Below.heap_alloc _ _ _ hk.2) fun k hk=>⟨by omega,by omega⟩
 ·rw [Below.heap_alloc _ _ _ (by have:=hk.size;omega),hk.block _ (by omega) (by omega),hw0]
  exact World.alloc_heap_new _ _
theorem zP.store {r g N F f:Nat} {w w7:World} {res:PR Ex} {p:Nat→Ex→List Tk→Option (PR Ex)} {x0 x1 x2 x3 x4:Value} {kids:List Ex} {us:List Tk} {o cap:Nat} {ob:Obj} {d0:Option Addr} {d1 d2:Nat} (k:Nat) (s:List UInt8) (n:Int) (line:Nat) (hr:r<w.heap.size) (hg:g<w.heap.size) (hNw:w.heap.size<N)
  (hk:zb r w w7) (hb:w7.heap[N]?=some (.cells #[x0,x1,x2,x3,x4] 90 (0,0))) (hrow:zO (fun k=>w.heap.size<k∧k≠N) (w7.alloc ob) kids (.slice d0 d1 d2)) (hrd:zc r g o cap us w7) (hz:w7.heap[w.heap.size]?=some zE)
  (hf:f≤F) (hp:p f (.mk k s n kids line) us=some res) (hE:zk us) (hN:us.length≤1099511627776) :
  zP r g N F w res p (set5 (w7.alloc ob) N (.int .i64 k) (.string (za s)) (.int .i64 n) (.slice d0 d1 d2) (.int .i64 line)):=by
 have y:=(Array.getElem?_eq_some_iff.1 hb).1;obtain ⟨t,ts,rfl⟩:=hE.cons;have z:=hk.size;refine ⟨.mk k s n kids line,t::ts,o,cap,f,k,za s,n,d0,d1,d2,line,hf,hp,hE,hN,yK ((Below.heap_alloc _ _ _ y).trans hb) _ _ _ _ _,?_,?_,ZF (hk.alloc _) (by omega) _ _ _ _ _,?_⟩
 ·exact zC.of_row (hrow.kept (w':=set5 (w7.alloc ob) N (.int .i64 k) (.string (za s)) (.int .i64 n) (.slice d0 d1 d2) (.int .i64 line)) (by simp) fun k hk _=>zj _ _ _ _ _ _ _ hk.2) k s n line
 ·exact (hrd.alloc ob).keep (zj _ _ _ _ _ _ _ (by omega)) (zj _ _ _ _ _ _ _ (by omega))
 ·rw [zj _ _ _ _ _ _ _ (by omega),Below.heap_alloc _ _ _ (by omega)];exact hz
theorem Vv (r g:Nat) (least:Nat) (w:World) (res:PR Ex) (hr:r<w.heap.size) (hgw:g<w.heap.size) (hl:6<least)
  (hb:Calls Tryz.prog 119 #[.pointer (some ⟨r,0,none⟩)] (w.alloc zE) (zl r g (w.alloc zE) res)) :
  Calls Tryz.prog 98 #[.pointer (some ⟨r,0,none⟩),.int .i64 least] w (zl r g w res):=by
 go_enter Tryz.func98,Tryz.ntmps98
 have V:(6:Int)<(least:Int):=by omega
 go_wp2_with fail
 refine hb.mono ?_;clear hb;rintro e w1 ⟨A,y⟩;have I:zb r w w1:=((zb.refl r w).alloc _).trans A;rcases res with a | ⟨x,ts⟩
 ·obtain rfl:=y
  exact ⟨rfl,I,rfl⟩
 ·obtain ⟨v,o,O,rfl,J,D⟩:=y
  obtain ⟨a,b,c,H,G,E,e,rfl⟩:=J.agg;have M:(w.alloc zE).heap.size=w.heap.size+1:=by simp
  have z:w1.heap[w.heap.size]?=some zE:=(A.block w.heap.size (by omega) (by omega)).trans (World.alloc_heap_new w _)
  have q0:w1.cell? ⟨w.heap.size,0,none⟩=some (.int .i64 0):=by simp only [World.cell?,z];rfl
  have Y:w1.cell? ⟨w.heap.size,1,none⟩=some (.string ⟨#[]⟩):=by simp only [World.cell?,z];rfl
  have Z:w1.cell? ⟨w.heap.size,2,none⟩=some (.int .i64 0):=by simp only [World.cell?,z];rfl
  have q3:w1.cell? ⟨w.heap.size,3,none⟩=some (.slice none 0 0):=by simp only [World.cell?,z];rfl
  have W:w1.cell? ⟨w.heap.size,4,none⟩=some (.int .i64 0):=by simp only [World.cell?,z];rfl
  have X:∀j,w1.frozen? ⟨w.heap.size,j,none⟩=false:=fun j=>by simp only [World.frozen?,z];simp
  have K:Hid (zl r g w (.ok (x,ts)) (.returned (.agg #[.int .i64 a,.string b,.int .i64 c,.slice H G E,.int .i64 e])) (set5 w1 w.heap.size (.int .i64 a) (.string b) (.int .i64 c) (.slice H G E) (.int .i64 e))) :=
   zl.of_set5' I (Nat.le_refl _) hr hgw J (by omega) D
  obtain ⟨Q,T,U,R,L⟩:=zr z (.int .i64 a) (.string b) (.int .i64 c) (.slice H G E) (.int .i64 e);clear A J D I z;go_wp2
  exact bodyPost_ret (v:=.agg #[.int .i64 a,.string b,.int .i64 c,.slice H G E,.int .i64 e]) (by simp [results,Tryz.results98,go_sem,Q,T,U,R,L]) rfl K.out
end Go.Proofs.YtmbofhpmockmbaaGreatDoor
