import Derived.Test.YtmbofhpmockmbaaGreatDoorMC19
import Derived.Deep.RegionHeld3
import Derived.RegionDies
import Derived.Test.YtmbofhpmockmbaaGreatDoorSUnary2
namespace Go.Proofs.YtmbofhpmockmbaaGreatDoor
open Go.RowKit Go.Shelf
set_option maxHeartbeats 16000000
set_option maxRecDepth 100000
def Ys (t:Tk):PR Ex→PR Ex
 | .error a=>.error a
 | .ok (e,ts)=>.ok (.mk 6 t.s 0 [e] t.line,ts)
theorem xk (r g o cap:Nat) (t:Tk) (ts:List Tk) (w:World) (res:PR Ex) (h:zc r g o cap (t::ts) w) (hE:zh (t::ts)) (hk:t.k=4) (hs:(t.s==[45]||t.s==[33])=true)
  (hun:∀U o1 cap1,zc r g o1 cap1 ts U→zb r w U→Calls Tryz.prog 119 #[.pointer (some ⟨r,0,none⟩)] U (zi r g U res)) :
  Calls Tryz.prog 119 #[.pointer (some ⟨r,0,none⟩)] w (zi r g w (Ys t res)):=by
 have Y:=h.lt.1;have ae:=h.lt.2;have ca:=fun w=>Yp t.s w
 simp only [hs] at ca;have h0:=h.alloc zA;have ch:=zZ r g o cap t ts _ h0;obtain ⟨w2,D⟩:∃w2,w2=((w.alloc zA).alloc (zE t)).alloc (.cells #[.int .i64 4,.string (za t.s),.int .i64 t.n,.int .i64 t.line,.int .i64 t.at0] 142):=⟨_,rfl⟩;have h2:zc r g o cap (t::ts) w2:=by rw [D];exact (h0.alloc _).alloc _
 have k2:zb r w w2:=by rw [D];exact (((zb.refl r w).alloc _).alloc _).alloc _
 have cs:=yO r g o cap t ts w2 h2 (hE.tail (by omega)).ne
 have ad:Hid (w2=((w.alloc zA).alloc (zE t)).alloc (.cells #[.int .i64 4,.string (za t.s),.int .i64 t.n,.int .i64 t.line,.int .i64 t.at0] 142)):=D;clear h h0
 go_enter Tryz.func119,Tryz.ntmps119
 go_wp2_with fail
 refine ch.mono ?_;clear ch;rintro e U ⟨rfl,rfl⟩;simp only [YA];go_wp2_with (go_at_call 146;refine (ca _).mono ?_;rintro e U ⟨rfl,rfl⟩)
 rw [←ad.out];refine cs.mono ?_;clear cs ca;rintro e w3 ⟨rfl,J⟩
 have n2:w2.heap[w.heap.size+1+1]?=some (.cells #[.int .i64 4,.string (za t.s),.int .i64 t.n,.int .i64 t.line,.int .i64 t.at0] 142 (0,0)):=by
  have hx:=World.alloc_heap_new ((w.alloc zA).alloc (zE t)) (.cells #[.int .i64 4,.string (za t.s),.int .i64 t.n,.int .i64 t.line,.int .i64 t.at0] 142);rw [←D,show ((w.alloc zA).alloc (zE t)).heap.size=w.heap.size+1+1 by simp] at hx
  exact hx
 have n0:w2.heap[w.heap.size]?=some zA:=by
  rw [D,Below.heap_alloc _ _ _ (by simp;omega),Below.heap_alloc _ _ _ (by simp)]
  exact World.alloc_heap_new _ _
 have S:zb r w w3:=by rw [J];exact k2.setCell 0 _
 have T:zb r w2 w3:=by rw [J];exact (zb.refl r w2).setCell 0 _
 have h3:zc r g (o+5) (cap-1) ts w3:=by rw [J];exact h2.next
 have m2:=(T.block _ (Array.getElem?_eq_some_iff.1 n2).1 (by omega)).trans n2
 have m0:=(T.block _ (Array.getElem?_eq_some_iff.1 n0).1 (by omega)).trans n0
 have cu:∀W:World,W.heap=w3.heap→W.os=w3.os→W.tape=w3.tape→W.output=w3.output→Calls Tryz.prog 119 #[.pointer (some ⟨r,0,none⟩)] W fun e w'=>zb r w3 w'∧zi r g W res e w':=fun W e1 e2 e3 e4 =>
  (hun W _ _ (h3.keep (by rw [e1]) (by rw [e1])) ⟨e2.trans S.os,e3.trans S.tape,e4.trans S.output,by rw [e1];exact S.size,fun k hk Y=>by rw [e1];exact S.block k hk Y⟩).mono fun e w' h =>
   ⟨⟨h.1.os.trans e2,h.1.tape.trans e3,h.1.output.trans e4,by rw [←e1];exact h.1.size,fun k hk Y=>by rw [←e1];exact h.1.block k (by rw [e1];exact hk) Y⟩,h⟩
 have R:Hid (zb r w w3):=S;have ak:w.heap.size+1+1<w3.heap.size:=(Array.getElem?_eq_some_iff.1 m2).1;have c1:w3.cell? ⟨w.heap.size+1+1,1,none⟩=some (.string (za t.s)):=by simp only [World.cell?,m2];rfl
 have c3:w3.cell? ⟨w.heap.size+1+1,3,none⟩=some (.int .i64 t.line):=by simp only [World.cell?,m2];rfl
 clear hun J n2 n0 S T h3 h2 k2 D ad hE;rcases res with a | ⟨x,us⟩
 ·have L:∀W:World,W.heap=w3.heap→W.os=w3.os→W.tape=w3.tape→W.output=w3.output→Calls Tryz.prog 119 #[.pointer (some ⟨r,0,none⟩)] W fun e w'=>e=Ze a∧zb r w w':=fun W e1 e2 e3 e4=>(cu W e1 e2 e3 e4).mono fun e w' h=>⟨h.2.2,R.out.trans h.1⟩
  clear cu;go_wp2_with fail
  go_region_dies
  all_goals (go_wp2_with fail;refine (L _ (by rfl) (by rfl) (by rfl) (by rfl)).mono ?_;rintro e y ⟨rfl,z⟩;exact ⟨rfl,z,rfl⟩)
 ·have L:∀W:World,W.heap=w3.heap→W.os=w3.os→W.tape=w3.tape→W.output=w3.output→Calls Tryz.prog 119 #[.pointer (some ⟨r,0,none⟩)] W fun e w'=>∃(a:Int) (b:ByteArray) (c:Int) (H:Option Addr) (E I:Nat) (l:Int),e=.returned (.agg #[.int .i64 a,.string b,.int .i64 c,.slice H E I,.int .i64 l]) ∧
    w'.cell? ⟨w.heap.size+1+1,1,none⟩=some (.string (za t.s))∧w'.cell? ⟨w.heap.size+1+1,3,none⟩=some (.int .i64 t.line)∧w'.heap[w.heap.size]?=some zA∧Hid (zb r w w')∧w3.heap.size≤w'.heap.size ∧
    Hid (zM w3.heap.size w' x (.agg #[.int .i64 a,.string b,.int .i64 c,.slice H E I,.int .i64 l]))∧Hid (∃o4 A,zc r g o4 A us w'):=fun W e1 e2 e3 e4=>(cu W e1 e2 e3 e4).mono fun e w' h=>by
   obtain ⟨z,-,v,o4,A,rfl,hx,ah⟩:=h;obtain ⟨a,b,c,H,E,I,l,rfl⟩:=hx.agg;exact ⟨a,b,c,H,E,I,l,rfl,z.cell (p:=⟨w.heap.size+1+1,1,none⟩) (by simp;omega) c1,z.cell (p:=⟨w.heap.size+1+1,3,none⟩) (by simp;omega) c3,(z.block _ (by omega) (by omega)).trans m0,R.out.trans z,z.size,(by rw [←e1];exact hx:zM w3.heap.size w' x _),⟨o4,A,ah⟩⟩
  clear cu m0 m2;go_wp2_with fail
  go_region_held3 (fun W=>W.cell? ⟨w.heap.size+1+1,1,none⟩=some (.string (za t.s))∧W.cell? ⟨w.heap.size+1+1,3,none⟩=some (.int .i64 t.line)) (first | go_keep | exact ⟨Z5 _ _ _ _ _ (by omega) (O _),Z5 _ _ _ _ _ (by omega) (Q _)⟩) (first | (go_at_call 119;refine (L _ (by rfl) (by rfl) (by rfl) (by rfl)).mono ?_;rintro e y ⟨a,b,c,H,E,I,l,rfl,X,aa,G,K,N,Z,ab⟩;have q0:y.cell? ⟨w.heap.size,0,none⟩=some (.int .i64 0):=(by simp only [World.cell?,G];rfl);have q1:y.cell? ⟨w.heap.size,1,none⟩=some (.string ⟨#[]⟩):=(by simp only [World.cell?,G];rfl);have q2:y.cell? ⟨w.heap.size,2,none⟩=some (.int .i64 0):=(by simp only [World.cell?,G];rfl);have q3:y.cell? ⟨w.heap.size,3,none⟩=some (.slice none 0 0):=(by simp only [World.cell?,G];rfl);have q4:y.cell? ⟨w.heap.size,4,none⟩=some (.int .i64 0):=(by simp only [World.cell?,G];rfl);have qf:∀j,y.frozen? ⟨w.heap.size,j,none⟩=false:=(fun j=>by simp only [World.frozen?,G];simp);have am:∀ob j,(y.alloc ob).frozen? ⟨w.heap.size,j,none⟩=false:=(fun ob j=>by simp only [World.frozen?,Below.heap_alloc y ob w.heap.size (Array.getElem?_eq_some_iff.1 G).1,G];simp);have aj:=ze q0;have ag:=ze q1;have ai:=ze q2;have af:=ze q3;have al:=ze q4;have O:=ze X;have Q:=ze aa))
  obtain ⟨o4,A,M⟩:=ab.out;have V:=World.block_lt_of_cell? y _ q0;have p5:(y.alloc (.cells #[.int .i64 a,.string b,.int .i64 c,.slice H E I,.int .i64 l] 90)).heap[w.heap.size]?=some zA:=(Below.heap_alloc _ _ _ V).trans G;obtain ⟨z0,z1,z2,z3,z4⟩:=zo p5 (.int .i64 6) (.string (za t.s)) (.int .i64 0) (.slice (some ⟨y.heap.size,0,none⟩) 1 1) (.int .i64 t.line)
  change Exit.then _ _ _ _ (set5 (y.alloc (.cells #[.int .i64 a,.string b,.int .i64 c,.slice H E I,.int .i64 l] 90)) w.heap.size (.int .i64 6) (.string (za t.s)) (.int .i64 0) (.slice (some ⟨y.heap.size,0,none⟩) 1 1) (.int .i64 t.line))
  have hp:zi r g w (Ys t (.ok (x,us))) (.returned (.agg #[.int .i64 6,.string (za t.s),.int .i64 0,.slice (some ⟨y.heap.size,0,none⟩) 1 1,.int .i64 t.line])) (set5 (y.alloc (.cells #[.int .i64 a,.string b,.int .i64 c,.slice H E I,.int .i64 l] 90)) w.heap.size (.int .i64 6) (.string (za t.s)) (.int .i64 0) (.slice (some ⟨y.heap.size,0,none⟩) 1 1) (.int .i64 t.line)) :=
   zi.of_set5 (B:=w3.heap.size) 6 t.s 0 t.line (K.out.alloc _) (Nat.le_refl _) Y ae (zF.one 90 (c:=[.int .i64 a,.string b,.int .i64 c,.slice H E I,.int .i64 l]) Z.out rfl N) (by omega) (M.keep (Below.heap_alloc _ _ _ (by have:=K.out.size;omega)) (Below.heap_alloc _ _ _ (by have:=K.out.size;omega)))
  generalize set5 (y.alloc (.cells #[.int .i64 a,.string b,.int .i64 c,.slice H E I,.int .i64 l] 90)) w.heap.size (.int .i64 6) (.string (za t.s)) (.int .i64 0) (.slice (some ⟨y.heap.size,0,none⟩) 1 1) (.int .i64 t.line)=W at *;have HP:Hid (zi r g w (Ys t (.ok (x,us))) (.returned (.agg #[.int .i64 6,.string (za t.s),.int .i64 0,.slice (some ⟨y.heap.size,0,none⟩) 1 1,.int .i64 t.line])) W):=hp;clear hp p5 V M q0 q1 q2 q3 q4 qf am aj ag ai af al O Q X aa c1 c3 G K N Z ab L R ak;go_wp2
  exact bodyPost_ret (v:=.agg #[.int .i64 6,.string (za t.s),.int .i64 0,.slice (some ⟨y.heap.size,0,none⟩) 1 1,.int .i64 t.line]) (by simp [results,Tryz.results119,go_sem,z0,z1,z2,z3,z4]) rfl HP.out
theorem ZL.kept {r:Nat} {w w':World} (h:ZL w) (hk:zb r w w') (hr:r≠5):ZL w':=by
 intro i v o;exact hk.cell (p:=⟨5,0+i,none⟩) (fun e=>hr e.symm) (h i v o)
theorem zy.line_eq {S:Nat→Prop} {w:World} {x:Ex} {a b c d:Value} {l:Int} (h:zy S w x (.agg #[a,b,c,d,.int .i64 l])):l=(x.line:Int):=by
 cases h <;> rfl
def zG (r g N F:Nat) (w:World) (res:PR Ex) (p:Nat→Ex→List Tk→Option (PR Ex)) (wr:World):Prop :=
 ∃(e:Ex) (ts:List Tk) (o cap f:Nat) (a:Int) (b:ByteArray) (c:Int) (d0:Option Addr) (d1 d2:Nat) (l:Int),f≤F∧p f e ts=some res∧zh ts∧ts.length≤1099511627776 ∧
  wr.heap[N]?=some (.cells #[.int .i64 a,.string b,.int .i64 c,.slice d0 d1 d2,.int .i64 l] 90 (0,0)) ∧
  zy (fun k=>w.heap.size<k∧k≠N) wr e (.agg #[.int .i64 a,.string b,.int .i64 c,.slice d0 d1 d2,.int .i64 l])∧zc r g o cap ts wr∧zb r w wr∧wr.heap[w.heap.size]?=some zA
theorem z7 {w:World} {N j:Nat} {c:Array Value} {ty:TypeId} {fr:Nat × Nat} (v:Value) (h:w.heap[N]?=some (.cells c ty fr)):(w.setCell ⟨N,j,none⟩ v).heap[N]?=some (.cells (c.setIfInBounds j v) ty fr):=by
 unfold World.setCell
 simp [Array.getElem?_modify,h]
theorem ya {w:World} {N:Nat} {x0 x1 x2 x3 x4:Value} {ty:TypeId} (h:w.heap[N]?=some (.cells #[x0,x1,x2,x3,x4] ty (0,0))) (a b c d e:Value):(set5 w N a b c d e).heap[N]?=some (.cells #[a,b,c,d,e] ty (0,0)) :=
 z7 e (z7 d (z7 c (z7 b (z7 a h))))
theorem zr {w:World} {N:Nat} {x0 x1 x2 x3 x4:Value} {ty:TypeId} (h:w.heap[N]?=some (.cells #[x0,x1,x2,x3,x4] ty (0,0))) :
  w.cell? ⟨N,0,none⟩=some x0∧w.cell? ⟨N,1,none⟩=some x1∧w.cell? ⟨N,2,none⟩=some x2∧w.cell? ⟨N,3,none⟩=some x3∧w.cell? ⟨N,4,none⟩=some x4∧∀j,w.frozen? ⟨N,j,none⟩=false:=by
 refine ⟨?_,?_,?_,?_,?_,fun j=>?_⟩
 ·simp only [World.cell?,h];rfl
 ·simp only [World.cell?,h];rfl
 ·simp only [World.cell?,h];rfl
 ·simp only [World.cell?,h];rfl
 ·simp only [World.cell?,h];rfl
 ·simp only [World.frozen?,h];simp
theorem zG.leave {r g N o cap:Nat} {w wr W:World} {e:Ex} {ts:List Tk} {a:Int} {b:ByteArray} {c:Int} {d0:Option Addr} {d1 d2:Nat} {l:Int} (hr:r<w.heap.size) (hg:g<w.heap.size) (hNw:w.heap.size<N) (hk:zb r w wr)
  (hb:wr.heap[N]?=some (.cells #[.int .i64 a,.string b,.int .i64 c,.slice d0 d1 d2,.int .i64 l] 90 (0,0))) (hz:wr.heap[w.heap.size]?=some zA)
  (hx:zy (fun k=>w.heap.size<k∧k≠N) wr e (.agg #[.int .i64 a,.string b,.int .i64 c,.slice d0 d1 d2,.int .i64 l])) (hK:zb r wr W) (hrd:zc r g o cap ts W) :
  W.heap[N]?=some (.cells #[.int .i64 a,.string b,.int .i64 c,.slice d0 d1 d2,.int .i64 l] 90 (0,0))∧W.heap[w.heap.size]?=some zA ∧
  zi r g w (.ok (e,ts)) (.returned (.agg #[.int .i64 a,.string b,.int .i64 c,.slice d0 d1 d2,.int .i64 l])) (set5 W w.heap.size (.int .i64 a) (.string b) (.int .i64 c) (.slice d0 d1 d2) (.int .i64 l)):=by
 refine ⟨(hK.block _ (Array.getElem?_eq_some_iff.1 hb).1 (by omega)).trans hb,(hK.block _ (Array.getElem?_eq_some_iff.1 hz).1 (by omega)).trans hz,?_⟩
 refine zi.of_set5' (B:=w.heap.size+1) (hk.trans hK) (Nat.le_refl _) hr hg ?_ (Nat.lt_succ_self _) hrd;exact zy.wide (zy.kept hx hK.size fun k hk' hlt=>hK.block k hlt (by omega)) fun k hk'=>hk'.1
theorem zG.start {r g F:Nat} {w w0 w1:World} {res:PR Ex} {p:Nat→Ex→List Tk→Option (PR Ex)} {x:Ex} {us:List Tk} {o cap:Nat} {a:Int} {b:ByteArray} {c:Int} {d0:Option Addr} {d1 d2:Nat} {l:Int} (hw0:w0=w.alloc zA) (hr:r<w.heap.size) (hk:zb r w0 w1)
  (hx:zM w0.heap.size w1 x (.agg #[.int .i64 a,.string b,.int .i64 c,.slice d0 d1 d2,.int .i64 l])) (hrd:zc r g o cap us w1) (hp:p F x us=some res) (hE:zh us) (hN:us.length≤1099511627776) :
  zG r g w1.heap.size F w res p (w1.alloc (.cells #[.int .i64 a,.string b,.int .i64 c,.slice d0 d1 d2,.int .i64 l] 90)):=by
 have h:w0.heap.size=w.heap.size+1:=by rw [hw0];simp
 have e:zb r w w1:=by rw [hw0] at hk;exact ((zb.refl r w).alloc _).trans hk
 obtain ⟨t,ts,rfl⟩:=hE.cons;refine ⟨x,t::ts,o,cap,F,a,b,c,d0,d1,d2,l,Nat.le_refl _,hp,hE,hN,World.alloc_heap_new _ _,?_,hrd.alloc _,e.alloc _,?_⟩
 ·exact zy.wide (zy.kept (zy.low hx) (by simp) fun k hk _=>Below.heap_alloc _ _ _ hk.2) fun k hk=>⟨by omega,by omega⟩
 ·rw [Below.heap_alloc _ _ _ (by have:=hk.size;omega),hk.block _ (by omega) (by omega),hw0]
  exact World.alloc_heap_new _ _
theorem zG.store {r g N F f:Nat} {w w7:World} {res:PR Ex} {p:Nat→Ex→List Tk→Option (PR Ex)} {x0 x1 x2 x3 x4:Value} {kids:List Ex} {us:List Tk} {o cap:Nat} {ob:Obj} {d0:Option Addr} {d1 d2:Nat} (k:Nat) (s:List UInt8) (n:Int) (line:Nat) (hr:r<w.heap.size) (hg:g<w.heap.size) (hNw:w.heap.size<N)
  (hk:zb r w w7) (hb:w7.heap[N]?=some (.cells #[x0,x1,x2,x3,x4] 90 (0,0))) (hrow:zF (fun k=>w.heap.size<k∧k≠N) (w7.alloc ob) kids (.slice d0 d1 d2)) (hrd:zc r g o cap us w7) (hz:w7.heap[w.heap.size]?=some zA)
  (hf:f≤F) (hp:p f (.mk k s n kids line) us=some res) (hE:zh us) (hN:us.length≤1099511627776) :
  zG r g N F w res p (set5 (w7.alloc ob) N (.int .i64 k) (.string (za s)) (.int .i64 n) (.slice d0 d1 d2) (.int .i64 line)):=by
 have e:=(Array.getElem?_eq_some_iff.1 hb).1;obtain ⟨t,ts,rfl⟩:=hE.cons;have h:=hk.size;refine ⟨.mk k s n kids line,t::ts,o,cap,f,k,za s,n,d0,d1,d2,line,hf,hp,hE,hN,ya ((Below.heap_alloc _ _ _ e).trans hb) _ _ _ _ _,?_,?_,Zk (hk.alloc _) (by omega) _ _ _ _ _,?_⟩
 ·exact zy.of_row (hrow.kept (w':=set5 (w7.alloc ob) N (.int .i64 k) (.string (za s)) (.int .i64 n) (.slice d0 d1 d2) (.int .i64 line)) (by simp) fun k hk _=>zg _ _ _ _ _ _ _ hk.2) k s n line
 ·exact (hrd.alloc ob).keep (zg _ _ _ _ _ _ _ (by omega)) (zg _ _ _ _ _ _ _ (by omega))
 ·rw [zg _ _ _ _ _ _ _ (by omega),Below.heap_alloc _ _ _ (by omega)];exact hz
theorem Xt (r g:Nat) (least:Nat) (w:World) (res:PR Ex) (hr:r<w.heap.size) (hgw:g<w.heap.size) (hl:6<least)
  (hb:Calls Tryz.prog 119 #[.pointer (some ⟨r,0,none⟩)] (w.alloc zA) (zi r g (w.alloc zA) res)) :
  Calls Tryz.prog 98 #[.pointer (some ⟨r,0,none⟩),.int .i64 least] w (zi r g w res):=by
 go_enter Tryz.func98,Tryz.ntmps98
 have J:(6:Int)<(least:Int):=by omega
 go_wp2_with fail
 refine hb.mono ?_;clear hb;rintro e w1 ⟨z,h⟩;have H:zb r w w1:=((zb.refl r w).alloc _).trans z;rcases res with a | ⟨x,ts⟩
 ·obtain rfl:=h
  exact ⟨rfl,H,rfl⟩
 ·obtain ⟨v,o,O,rfl,I,A⟩:=h
  obtain ⟨a,b,c,D,G,E,e,rfl⟩:=I.agg;have R:(w.alloc zA).heap.size=w.heap.size+1:=by simp
  have y:w1.heap[w.heap.size]?=some zA:=(z.block w.heap.size (by omega) (by omega)).trans (World.alloc_heap_new w _)
  have W:w1.cell? ⟨w.heap.size,0,none⟩=some (.int .i64 0):=by simp only [World.cell?,y];rfl
  have V:w1.cell? ⟨w.heap.size,1,none⟩=some (.string ⟨#[]⟩):=by simp only [World.cell?,y];rfl
  have X:w1.cell? ⟨w.heap.size,2,none⟩=some (.int .i64 0):=by simp only [World.cell?,y];rfl
  have T:w1.cell? ⟨w.heap.size,3,none⟩=some (.slice none 0 0):=by simp only [World.cell?,y];rfl
  have Y:w1.cell? ⟨w.heap.size,4,none⟩=some (.int .i64 0):=by simp only [World.cell?,y];rfl
  have U:∀j,w1.frozen? ⟨w.heap.size,j,none⟩=false:=fun j=>by simp only [World.frozen?,y];simp
  have K:Hid (zi r g w (.ok (x,ts)) (.returned (.agg #[.int .i64 a,.string b,.int .i64 c,.slice D G E,.int .i64 e])) (set5 w1 w.heap.size (.int .i64 a) (.string b) (.int .i64 c) (.slice D G E) (.int .i64 e))) :=
   zi.of_set5' H (Nat.le_refl _) hr hgw I (by omega) A
  obtain ⟨M,L,S,Q,N⟩:=zo y (.int .i64 a) (.string b) (.int .i64 c) (.slice D G E) (.int .i64 e);clear z I A H y;go_wp2
  exact bodyPost_ret (v:=.agg #[.int .i64 a,.string b,.int .i64 c,.slice D G E,.int .i64 e]) (by simp [results,Tryz.results98,go_sem,M,L,S,Q,N]) rfl K.out
end Go.Proofs.YtmbofhpmockmbaaGreatDoor
