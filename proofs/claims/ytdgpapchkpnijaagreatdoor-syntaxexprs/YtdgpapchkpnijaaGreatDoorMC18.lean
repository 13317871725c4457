import Derived.Test.YtdgpapchkpnijaaGreatDoorMC17
namespace Go.Proofs.YtdgpapchkpnijaaGreatDoor
open Go.RowKit Go.Shelf
set_option maxHeartbeats 16000000
set_option maxRecDepth 100000
theorem Qj (r g o cap:Nat) (t:Tk) (ts:List Tk) (w:World) (res:PR Ex) (h:zg r g o cap (t::ts) w) (hs:¬(t.k=4∧(t.s=[45]∨t.s=[33])))
  (hwp:∀w1,zg r g o cap (t::ts) w1→zb r w w1→Calls Tryz.prog 145 #[.pointer (some ⟨r,0,none⟩)] w1 (zI r g w1 res)) :
  Calls Tryz.prog 115 #[.pointer (some ⟨r,0,none⟩)] w (zI r g w res):=by
 have hr:=h.lt.1;have hgw:=h.lt.2;have ca:=fun w=>vw t.s w
 have h0:=h.alloc Ze;have ch:=ye r g o cap t ts _ h0;obtain ⟨w2,hw2⟩:∃w2,w2=((w.alloc Ze).alloc (ZK t)).alloc (ZK t):=⟨_,rfl⟩;have h2:zg r g o cap (t::ts) w2:=by rw [hw2];exact (h0.alloc _).alloc _
 have k2:zb r w w2:=by rw [hw2];exact (((zb.refl r w).alloc _).alloc _).alloc _
 have cw:=hwp w2 h2 k2
 have n0:w2.heap[w.heap.size]?=some Ze:=by
  rw [hw2,Below.heap_alloc _ _ _ (by simp;omega),Below.heap_alloc _ _ _ (by simp)]
  exact World.alloc_heap_new _ _
 have hl2:w.heap.size<w2.heap.size:=(Array.getElem?_eq_some_iff.1 n0).1;have HN0:Hid (w2.heap[w.heap.size]?=some Ze):=n0;have HK2:Hid (zb r w w2):=k2;have HW2:Hid (w2=((w.alloc Ze).alloc (ZK t)).alloc (ZK t)):=hw2;clear h h0 h2 k2 hw2 hwp n0
 have key:∀e w3,zI r g w2 res e w3→(∃a,res=.error a∧e=ZF a∧zb r w w3)∨∃(x:Ex) (us:List Tk) (a:Int) (b:ByteArray) (c:Int) (d0:Option Addr) (d1 d2:Nat) (l:Int),res=.ok (x,us)∧e=.returned (.agg #[.int .i64 a,.string b,.int .i64 c,.slice d0 d1 d2,.int .i64 l])∧w3.heap[w.heap.size]?=some Ze ∧
   zI r g w (.ok (x,us)) (.returned (.agg #[.int .i64 a,.string b,.int .i64 c,.slice d0 d1 d2,.int .i64 l])) (set5 w3 w.heap.size (.int .i64 a) (.string b) (.int .i64 c) (.slice d0 d1 d2) (.int .i64 l)):=by
  rintro e w3 ⟨hk3,hpost⟩;rcases res with a | ⟨x,us⟩
  ·exact .inl ⟨a,rfl,hpost,HK2.out.trans hk3⟩
  ·obtain ⟨v,o3,cap3,rfl,hx,hrd⟩:=hpost
   obtain ⟨a,b,c,d0,d1,d2,l,rfl⟩:=hx.agg;exact .inr ⟨x,us,a,b,c,d0,d1,d2,l,rfl,rfl,(hk3.block _ hl2 (by omega)).trans HN0.out,zI.of_set5' (HK2.out.trans hk3) (Nat.le_refl _) hr hgw hx hl2 hrd⟩
 have HKEY:Hid (∀e w3,zI r g w2 res e w3→(∃a,res=.error a∧e=ZF a∧zb r w w3)∨∃(x:Ex) (us:List Tk) (a:Int) (b:ByteArray) (c:Int) (d0:Option Addr) (d1 d2:Nat) (l:Int),res=.ok (x,us)∧e=.returned (.agg #[.int .i64 a,.string b,.int .i64 c,.slice d0 d1 d2,.int .i64 l])∧w3.heap[w.heap.size]?=some Ze ∧
   zI r g w (.ok (x,us)) (.returned (.agg #[.int .i64 a,.string b,.int .i64 c,.slice d0 d1 d2,.int .i64 l])) (set5 w3 w.heap.size (.int .i64 a) (.string b) (.int .i64 c) (.slice d0 d1 d2) (.int .i64 l))):=key
 clear key HN0 HK2 hl2
 go_enter Tryz.func115,Tryz.ntmps115
 go_wp2_with fail
 refine ch.mono ?_;clear ch;rintro e w1 ⟨rfl,rfl⟩;simp only [Xc]
 by_cases h4:t.k=4
 ·have hb:(t.s==[45]||t.s==[33])=false:=by
   rw [Bool.or_eq_false_iff,beq_eq_false_iff_ne,beq_eq_false_iff_ne];exact ⟨fun e=>hs ⟨h4,.inl e⟩,fun e=>hs ⟨h4,.inr e⟩⟩
  simp only [hb] at ca;have h4':(t.k:Int)=4:=by omega
  go_wp2_with (go_at_call 127;refine (ca _).mono ?_;rintro e w1 ⟨rfl,rfl⟩)
  have hO:ZK t=.cells #[.int .i64 4,.string (za t.s),.int .i64 t.n,.int .i64 t.line,.int .i64 t.at0] 69:=by simp only [ZK,h4];rfl
  rw [show ((w.alloc Ze).alloc (ZK t)).alloc (.cells #[.int .i64 4,.string (za t.s),.int .i64 t.n,.int .i64 t.line,.int .i64 t.at0] 69)=w2 by rw [←hO];exact HW2.out.symm]
  refine cw.mono ?_;clear cw ca HW2;intro e w3 hpost;rcases HKEY.out e w3 hpost with ⟨a,rfl,rfl,hk⟩ | ⟨x,us,a,b,c,d0,d1,d2,l,rfl,rfl,p3,hp⟩
  ·exact ⟨rfl,hk,rfl⟩
  ·obtain ⟨z0,z1,z2,z3,z4⟩:=zt p3 (.int .i64 a) (.string b) (.int .i64 c) (.slice d0 d1 d2) (.int .i64 l)
   have q0:w3.cell? ⟨w.heap.size,0,none⟩=some (.int .i64 0):=by simp only [World.cell?,p3];rfl
   have q1:w3.cell? ⟨w.heap.size,1,none⟩=some (.string ⟨#[]⟩):=by simp only [World.cell?,p3];rfl
   have q2:w3.cell? ⟨w.heap.size,2,none⟩=some (.int .i64 0):=by simp only [World.cell?,p3];rfl
   have q3:w3.cell? ⟨w.heap.size,3,none⟩=some (.slice none 0 0):=by simp only [World.cell?,p3];rfl
   have q4:w3.cell? ⟨w.heap.size,4,none⟩=some (.int .i64 0):=by simp only [World.cell?,p3];rfl
   have qf:∀j,w3.frozen? ⟨w.heap.size,j,none⟩=false:=fun j=>by simp only [World.frozen?,p3];simp
   have HP:Hid (zI r g w (.ok (x,us)) (.returned (.agg #[.int .i64 a,.string b,.int .i64 c,.slice d0 d1 d2,.int .i64 l])) (set5 w3 w.heap.size (.int .i64 a) (.string b) (.int .i64 c) (.slice d0 d1 d2) (.int .i64 l))):=hp;clear HKEY hpost hp p3;go_wp2
   exact bodyPost_ret (v:=.agg #[.int .i64 a,.string b,.int .i64 c,.slice d0 d1 d2,.int .i64 l]) (by simp [results,Tryz.results115,go_sem,z0,z1,z2,z3,z4]) rfl HP.out
 ·have h4':¬(t.k:Int)=4:=by omega
  go_wp2_with fail
  rw [←HW2.out];refine cw.mono ?_;clear cw ca HW2;intro e w3 hpost;rcases HKEY.out e w3 hpost with ⟨a,rfl,rfl,hk⟩ | ⟨x,us,a,b,c,d0,d1,d2,l,rfl,rfl,p3,hp⟩
  ·exact ⟨rfl,hk,rfl⟩
  ·obtain ⟨z0,z1,z2,z3,z4⟩:=zt p3 (.int .i64 a) (.string b) (.int .i64 c) (.slice d0 d1 d2) (.int .i64 l)
   have q0:w3.cell? ⟨w.heap.size,0,none⟩=some (.int .i64 0):=by simp only [World.cell?,p3];rfl
   have q1:w3.cell? ⟨w.heap.size,1,none⟩=some (.string ⟨#[]⟩):=by simp only [World.cell?,p3];rfl
   have q2:w3.cell? ⟨w.heap.size,2,none⟩=some (.int .i64 0):=by simp only [World.cell?,p3];rfl
   have q3:w3.cell? ⟨w.heap.size,3,none⟩=some (.slice none 0 0):=by simp only [World.cell?,p3];rfl
   have q4:w3.cell? ⟨w.heap.size,4,none⟩=some (.int .i64 0):=by simp only [World.cell?,p3];rfl
   have qf:∀j,w3.frozen? ⟨w.heap.size,j,none⟩=false:=fun j=>by simp only [World.frozen?,p3];simp
   have HP:Hid (zI r g w (.ok (x,us)) (.returned (.agg #[.int .i64 a,.string b,.int .i64 c,.slice d0 d1 d2,.int .i64 l])) (set5 w3 w.heap.size (.int .i64 a) (.string b) (.int .i64 c) (.slice d0 d1 d2) (.int .i64 l))):=hp;clear HKEY hpost hp p3;go_wp2
   exact bodyPost_ret (v:=.agg #[.int .i64 a,.string b,.int .i64 c,.slice d0 d1 d2,.int .i64 l]) (by simp [results,Tryz.results115,go_sem,z0,z1,z2,z3,z4]) rfl HP.out
theorem Zy.kept {r:Nat} {w w':World} (h:Zy w) (hk:zb r w w') (hr:r≠1):Zy w':=by
 intro i v hi;exact hk.cell (p:=⟨1,0+i,none⟩) (fun e=>hr e.symm) (h i v hi)
theorem zQ.line_eq {S:Nat→Prop} {w:World} {x:Ex} {a b c d:Value} {l:Int} (h:zQ S w x (.agg #[a,b,c,d,.int .i64 l])):l=(x.line:Int):=by
 cases h <;> rfl
def Z0 (r g N F:Nat) (w:World) (res:PR Ex) (p:Nat→Ex→List Tk→Option (PR Ex)) (wr:World):Prop :=
 ∃(e:Ex) (ts:List Tk) (o cap f:Nat) (a:Int) (b:ByteArray) (c:Int) (d0:Option Addr) (d1 d2:Nat) (l:Int),f≤F∧p f e ts=some res∧zk ts∧ts.length≤1099511627776 ∧
  wr.heap[N]?=some (.cells #[.int .i64 a,.string b,.int .i64 c,.slice d0 d1 d2,.int .i64 l] 40 (0,0)) ∧
  zQ (fun k=>w.heap.size<k∧k≠N) wr e (.agg #[.int .i64 a,.string b,.int .i64 c,.slice d0 d1 d2,.int .i64 l])∧zg r g o cap ts wr∧zb r w wr∧wr.heap[w.heap.size]?=some Ze
theorem zp {w:World} {N j:Nat} {c:Array Value} {ty:TypeId} {fr:Nat × Nat} (v:Value) (h:w.heap[N]?=some (.cells c ty fr)):(w.setCell ⟨N,j,none⟩ v).heap[N]?=some (.cells (c.setIfInBounds j v) ty fr):=by
 unfold World.setCell
 simp [Array.getElem?_modify,h]
theorem y9 {w:World} {N:Nat} {x0 x1 x2 x3 x4:Value} {ty:TypeId} (h:w.heap[N]?=some (.cells #[x0,x1,x2,x3,x4] ty (0,0))) (a b c d e:Value):(set5 w N a b c d e).heap[N]?=some (.cells #[a,b,c,d,e] ty (0,0)) :=
 zp e (zp d (zp c (zp b (zp a h))))
theorem zl {w:World} {N:Nat} {x0 x1 x2 x3 x4:Value} {ty:TypeId} (h:w.heap[N]?=some (.cells #[x0,x1,x2,x3,x4] ty (0,0))) :
  w.cell? ⟨N,0,none⟩=some x0∧w.cell? ⟨N,1,none⟩=some x1∧w.cell? ⟨N,2,none⟩=some x2∧w.cell? ⟨N,3,none⟩=some x3∧w.cell? ⟨N,4,none⟩=some x4∧∀j,w.frozen? ⟨N,j,none⟩=false:=by
 refine ⟨?_,?_,?_,?_,?_,fun j=>?_⟩
 ·simp only [World.cell?,h];rfl
 ·simp only [World.cell?,h];rfl
 ·simp only [World.cell?,h];rfl
 ·simp only [World.cell?,h];rfl
 ·simp only [World.cell?,h];rfl
 ·simp only [World.frozen?,h];simp
theorem Z0.leave {r g N o cap:Nat} {w wr W:World} {e:Ex} {ts:List Tk} {a:Int} {b:ByteArray} {c:Int} {d0:Option Addr} {d1 d2:Nat} {l:Int} (hr:r<w.heap.size) (hg:g<w.heap.size) (hNw:w.heap.size<N) (hk:zb r w wr)
  (hb:wr.heap[N]?=some (.cells #[.int .i64 a,.string b,.int .i64 c,.slice d0 d1 d2,.int .i64 l] 40 (0,0))) (hz:wr.heap[w.heap.size]?=some Ze)
  (hx:zQ (fun k=>w.heap.size<k∧k≠N) wr e (.agg #[.int .i64 a,.string b,.int .i64 c,.slice d0 d1 d2,.int .i64 l])) (hK:zb r wr W) (hrd:zg r g o cap ts W) :
  W.heap[N]?=some (.cells #[.int .i64 a,.string b,.int .i64 c,.slice d0 d1 d2,.int .i64 l] 40 (0,0))∧W.heap[w.heap.size]?=some Ze ∧
  zI r g w (.ok (e,ts)) (.returned (.agg #[.int .i64 a,.string b,.int .i64 c,.slice d0 d1 d2,.int .i64 l])) (set5 W w.heap.size (.int .i64 a) (.string b) (.int .i64 c) (.slice d0 d1 d2) (.int .i64 l)):=by
 refine ⟨(hK.block _ (Array.getElem?_eq_some_iff.1 hb).1 (by omega)).trans hb,(hK.block _ (Array.getElem?_eq_some_iff.1 hz).1 (by omega)).trans hz,?_⟩
 refine zI.of_set5' (B:=w.heap.size+1) (hk.trans hK) (Nat.le_refl _) hr hg ?_ (Nat.lt_succ_self _) hrd;exact zQ.wide (zQ.kept hx hK.size fun k hk' hlt=>hK.block k hlt (by omega)) fun k hk'=>hk'.1
theorem Z0.start {r g F:Nat} {w w0 w1:World} {res:PR Ex} {p:Nat→Ex→List Tk→Option (PR Ex)} {x:Ex} {us:List Tk} {o cap:Nat} {a:Int} {b:ByteArray} {c:Int} {d0:Option Addr} {d1 d2:Nat} {l:Int} (hw0:w0=w.alloc Ze) (hr:r<w.heap.size) (hk:zb r w0 w1)
  (hx:Zc w0.heap.size w1 x (.agg #[.int .i64 a,.string b,.int .i64 c,.slice d0 d1 d2,.int .i64 l])) (hrd:zg r g o cap us w1) (hp:p F x us=some res) (hE:zk us) (hN:us.length≤1099511627776) :
  Z0 r g w1.heap.size F w res p (w1.alloc (.cells #[.int .i64 a,.string b,.int .i64 c,.slice d0 d1 d2,.int .i64 l] 40)):=by
 have hs:w0.heap.size=w.heap.size+1:=by rw [hw0];simp
 have hk':zb r w w1:=by rw [hw0] at hk;exact ((zb.refl r w).alloc _).trans hk
 obtain ⟨t,ts,rfl⟩:=hE.cons;refine ⟨x,t::ts,o,cap,F,a,b,c,d0,d1,d2,l,Nat.le_refl _,hp,hE,hN,World.alloc_heap_new _ _,?_,hrd.alloc _,hk'.alloc _,?_⟩
 ·exact zQ.wide (zQ.kept (zQ.low hx) (by simp) fun k hk _=>Below.heap_alloc _ _ _ hk.2) fun k hk=>⟨by omega,by omega⟩
 ·rw [Below.heap_alloc _ _ _ (by have:=hk.size;omega),hk.block _ (by omega) (by omega),hw0]
  exact World.alloc_heap_new _ _
theorem Z0.store {r g N F f:Nat} {w w7:World} {res:PR Ex} {p:Nat→Ex→List Tk→Option (PR Ex)} {x0 x1 x2 x3 x4:Value} {kids:List Ex} {us:List Tk} {o cap:Nat} {ob:Obj} {d0:Option Addr} {d1 d2:Nat} (k:Nat) (s:List UInt8) (n:Int) (line:Nat) (hr:r<w.heap.size) (hg:g<w.heap.size) (hNw:w.heap.size<N)
  (hk:zb r w w7) (hb:w7.heap[N]?=some (.cells #[x0,x1,x2,x3,x4] 40 (0,0))) (hrow:zG (fun k=>w.heap.size<k∧k≠N) (w7.alloc ob) kids (.slice d0 d1 d2)) (hrd:zg r g o cap us w7) (hz:w7.heap[w.heap.size]?=some Ze)
  (hf:f≤F) (hp:p f (.mk k s n kids line) us=some res) (hE:zk us) (hN:us.length≤1099511627776) :
  Z0 r g N F w res p (set5 (w7.alloc ob) N (.int .i64 k) (.string (za s)) (.int .i64 n) (.slice d0 d1 d2) (.int .i64 line)):=by
 have hlt:=(Array.getElem?_eq_some_iff.1 hb).1;obtain ⟨t,ts,rfl⟩:=hE.cons;have hs:=hk.size;refine ⟨.mk k s n kids line,t::ts,o,cap,f,k,za s,n,d0,d1,d2,line,hf,hp,hE,hN,y9 ((Below.heap_alloc _ _ _ hlt).trans hb) _ _ _ _ _,?_,?_,ZM (hk.alloc _) (by omega) _ _ _ _ _,?_⟩
 ·exact zQ.of_row (hrow.kept (w':=set5 (w7.alloc ob) N (.int .i64 k) (.string (za s)) (.int .i64 n) (.slice d0 d1 d2) (.int .i64 line)) (by simp) fun k hk _=>zr _ _ _ _ _ _ _ hk.2) k s n line
 ·exact (hrd.alloc ob).keep (zr _ _ _ _ _ _ _ (by omega)) (zr _ _ _ _ _ _ _ (by omega))
 ·rw [zr _ _ _ _ _ _ _ (by omega),Below.heap_alloc _ _ _ (by omega)];exact hz
theorem zaw (r g:Nat) (least:Nat) (w:World) (res:PR Ex) (hr:r<w.heap.size) (hgw:g<w.heap.size) (hl:6<least)
  (hb:Calls Tryz.prog 115 #[.pointer (some ⟨r,0,none⟩)] (w.alloc Ze) (zI r g (w.alloc Ze) res)) :
  Calls Tryz.prog 74 #[.pointer (some ⟨r,0,none⟩),.int .i64 least] w (zI r g w res):=by
 go_enter Tryz.func74,Tryz.ntmps74
 have hl':(6:Int)<(least:Int):=by omega
 go_wp2_with fail
 refine hb.mono ?_;clear hb;rintro e w1 ⟨hk1,hpost⟩;have hK:zb r w w1:=((zb.refl r w).alloc _).trans hk1;rcases res with a | ⟨x,ts⟩
 ·obtain rfl:=hpost
  exact ⟨rfl,hK,rfl⟩
 ·obtain ⟨v,o,cap,rfl,hx,hrd⟩:=hpost
  obtain ⟨a,b,c,d0,d1,d2,e,rfl⟩:=hx.agg;have hsz:(w.alloc Ze).heap.size=w.heap.size+1:=by simp
  have p0:w1.heap[w.heap.size]?=some Ze:=(hk1.block w.heap.size (by omega) (by omega)).trans (World.alloc_heap_new w _)
  have q0:w1.cell? ⟨w.heap.size,0,none⟩=some (.int .i64 0):=by simp only [World.cell?,p0];rfl
  have q1:w1.cell? ⟨w.heap.size,1,none⟩=some (.string ⟨#[]⟩):=by simp only [World.cell?,p0];rfl
  have q2:w1.cell? ⟨w.heap.size,2,none⟩=some (.int .i64 0):=by simp only [World.cell?,p0];rfl
  have q3:w1.cell? ⟨w.heap.size,3,none⟩=some (.slice none 0 0):=by simp only [World.cell?,p0];rfl
  have q4:w1.cell? ⟨w.heap.size,4,none⟩=some (.int .i64 0):=by simp only [World.cell?,p0];rfl
  have qf:∀j,w1.frozen? ⟨w.heap.size,j,none⟩=false:=fun j=>by simp only [World.frozen?,p0];simp
  have HP:Hid (zI r g w (.ok (x,ts)) (.returned (.agg #[.int .i64 a,.string b,.int .i64 c,.slice d0 d1 d2,.int .i64 e])) (set5 w1 w.heap.size (.int .i64 a) (.string b) (.int .i64 c) (.slice d0 d1 d2) (.int .i64 e))) :=
   zI.of_set5' hK (Nat.le_refl _) hr hgw hx (by omega) hrd
  obtain ⟨z0,z1,z2,z3,z4⟩:=zt p0 (.int .i64 a) (.string b) (.int .i64 c) (.slice d0 d1 d2) (.int .i64 e);clear hk1 hx hrd hK p0;go_wp2
  exact bodyPost_ret (v:=.agg #[.int .i64 a,.string b,.int .i64 c,.slice d0 d1 d2,.int .i64 e]) (by simp [results,Tryz.results74,go_sem,z0,z1,z2,z3,z4]) rfl HP.out
theorem Qk (r g o cap:Nat) (t:Tk) (ts:List Tk) (w:World) (h:zg r g o cap (t::ts) w) (hk:t.k=2) (hne:ts≠[]) :
  Calls Tryz.prog 176 #[.pointer (some ⟨r,0,none⟩)] w (zI r g w (.ok (.mk 1 [] t.n [] t.line,ts))):=by
 have hr:=h.lt.1;have hgw:=h.lt.2;have h0:=h.alloc Ze;have ch:=ye r g o cap t ts _ h0;obtain ⟨w2,hw2⟩:∃w2,w2=((w.alloc Ze).alloc (ZK t)).alloc (.cells #[.int .i64 2,.string (za t.s),.int .i64 t.n,.int .i64 t.line,.int .i64 t.at0] 69):=⟨_,rfl⟩;have h2:zg r g o cap (t::ts) w2:=by rw [hw2];exact (h0.alloc _).alloc _
 have k2:zb r w w2:=by rw [hw2];exact (((zb.refl r w).alloc _).alloc _).alloc _
 have n0:w2.heap[w.heap.size]?=some Ze:=by
  rw [hw2,Below.heap_alloc _ _ _ (by simp;omega),Below.heap_alloc _ _ _ (by simp)]
  exact World.alloc_heap_new _ _
 have n2:w2.heap[w.heap.size+1+1]?=some (.cells #[.int .i64 2,.string (za t.s),.int .i64 t.n,.int .i64 t.line,.int .i64 t.at0] 69):=by
  have hx:=World.alloc_heap_new ((w.alloc Ze).alloc (ZK t)) (.cells #[.int .i64 2,.string (za t.s),.int .i64 t.n,.int .i64 t.line,.int .i64 t.at0] 69);rw [←hw2,show ((w.alloc Ze).alloc (ZK t)).heap.size=w.heap.size+1+1 by simp] at hx
  exact hx
 have hl2:w.heap.size+1+1<w2.heap.size:=(Array.getElem?_eq_some_iff.1 n2).1;have HW2:Hid (w2=((w.alloc Ze).alloc (ZK t)).alloc (.cells #[.int .i64 2,.string (za t.s),.int .i64 t.n,.int .i64 t.line,.int .i64 t.at0] 69)):=hw2;clear h h0 hw2;have cs:=vj r g o cap t ts w2 h2 hne
 go_enter Tryz.func176,Tryz.ntmps176
 go_wp2_with fail
 refine ch.mono ?_;clear ch;rintro e w1 ⟨rfl,rfl⟩;simp only [Xc];go_wp2_with fail
 rw [←HW2.out];refine cs.mono ?_;clear cs HW2;rintro e w3 ⟨rfl,hw3⟩;have k3:zb r w w3:=by rw [hw3];exact k2.setCell 0 _
 have k23:zb r w2 w3:=by rw [hw3];exact (zb.refl r w2).setCell 0 _
 have h3:zg r g (o+5) (cap-1) ts w3:=by rw [hw3];exact h2.next
 have p0:=(k23.block _ (Array.getElem?_eq_some_iff.1 n0).1 (by omega)).trans n0
 have p2:=(k23.block _ hl2 (by omega)).trans n2
 obtain ⟨c0,c1,c2,c3,c4,-⟩:=zl p2;obtain ⟨q0,q1,q2,q3,q4,qf⟩:=zl p0;obtain ⟨z0,z1,z2,z3,z4⟩:=zt p0 (.int .i64 1) (.string ⟨#[]⟩) (.int .i64 t.n) (.slice none 0 0) (.int .i64 t.line)
 have HP:Hid (zI r g w (.ok (.mk 1 [] t.n [] t.line,ts)) (.returned (.agg #[.int .i64 1,(.string ⟨#[]⟩),(.int .i64 t.n),.slice none 0 0,.int .i64 t.line])) (set5 w3 w.heap.size (.int .i64 1) (.string ⟨#[]⟩) (.int .i64 t.n) (.slice none 0 0) (.int .i64 t.line))) :=
  zI.of_set5 (B:=w.heap.size+1) 1 [] t.n t.line k3 (Nat.le_refl _) hr hgw (.inl ⟨rfl,rfl⟩) (Nat.lt_succ_self _) h3
 clear k3 k23 h3 p0 p2 n0 n2 h2 k2 hw3;go_wp2
 exact bodyPost_ret (v:=.agg #[.int .i64 1,(.string ⟨#[]⟩),(.int .i64 t.n),.slice none 0 0,.int .i64 t.line]) (by simp [results,Tryz.results176,go_sem,z0,z1,z2,z3,z4]) rfl HP.out
theorem Ql (r g o cap:Nat) (t:Tk) (ts:List Tk) (w:World) (h:zg r g o cap (t::ts) w) (hk:t.k=3) (hne:ts≠[]) :
  Calls Tryz.prog 176 #[.pointer (some ⟨r,0,none⟩)] w (zI r g w (.ok (.mk 3 t.s 0 [] t.line,ts))):=by
 have hr:=h.lt.1;have hgw:=h.lt.2;have h0:=h.alloc Ze;have ch:=ye r g o cap t ts _ h0;obtain ⟨w2,hw2⟩:∃w2,w2=((w.alloc Ze).alloc (ZK t)).alloc (.cells #[.int .i64 3,.string (za t.s),.int .i64 t.n,.int .i64 t.line,.int .i64 t.at0] 69):=⟨_,rfl⟩;have h2:zg r g o cap (t::ts) w2:=by rw [hw2];exact (h0.alloc _).alloc _
 have k2:zb r w w2:=by rw [hw2];exact (((zb.refl r w).alloc _).alloc _).alloc _
 have n0:w2.heap[w.heap.size]?=some Ze:=by
  rw [hw2,Below.heap_alloc _ _ _ (by simp;omega),Below.heap_alloc _ _ _ (by simp)]
  exact World.alloc_heap_new _ _
 have n2:w2.heap[w.heap.size+1+1]?=some (.cells #[.int .i64 3,.string (za t.s),.int .i64 t.n,.int .i64 t.line,.int .i64 t.at0] 69):=by
  have hx:=World.alloc_heap_new ((w.alloc Ze).alloc (ZK t)) (.cells #[.int .i64 3,.string (za t.s),.int .i64 t.n,.int .i64 t.line,.int .i64 t.at0] 69);rw [←hw2,show ((w.alloc Ze).alloc (ZK t)).heap.size=w.heap.size+1+1 by simp] at hx
  exact hx
 have hl2:w.heap.size+1+1<w2.heap.size:=(Array.getElem?_eq_some_iff.1 n2).1;have HW2:Hid (w2=((w.alloc Ze).alloc (ZK t)).alloc (.cells #[.int .i64 3,.string (za t.s),.int .i64 t.n,.int .i64 t.line,.int .i64 t.at0] 69)):=hw2;clear h h0 hw2;have cs:=vj r g o cap t ts w2 h2 hne
 go_enter Tryz.func176,Tryz.ntmps176
 go_wp2_with fail
 refine ch.mono ?_;clear ch;rintro e w1 ⟨rfl,rfl⟩;simp only [Xc];go_wp2_with fail
 rw [←HW2.out];refine cs.mono ?_;clear cs HW2;rintro e w3 ⟨rfl,hw3⟩;have k3:zb r w w3:=by rw [hw3];exact k2.setCell 0 _
 have k23:zb r w2 w3:=by rw [hw3];exact (zb.refl r w2).setCell 0 _
 have h3:zg r g (o+5) (cap-1) ts w3:=by rw [hw3];exact h2.next
 have p0:=(k23.block _ (Array.getElem?_eq_some_iff.1 n0).1 (by omega)).trans n0
 have p2:=(k23.block _ hl2 (by omega)).trans n2
 obtain ⟨c0,c1,c2,c3,c4,-⟩:=zl p2;obtain ⟨q0,q1,q2,q3,q4,qf⟩:=zl p0;obtain ⟨z0,z1,z2,z3,z4⟩:=zt p0 (.int .i64 3) (.string (za t.s)) (.int .i64 0) (.slice none 0 0) (.int .i64 t.line)
 have HP:Hid (zI r g w (.ok (.mk 3 t.s 0 [] t.line,ts)) (.returned (.agg #[.int .i64 3,(.string (za t.s)),(.int .i64 0),.slice none 0 0,.int .i64 t.line])) (set5 w3 w.heap.size (.int .i64 3) (.string (za t.s)) (.int .i64 0) (.slice none 0 0) (.int .i64 t.line))) :=
  zI.of_set5 (B:=w.heap.size+1) 3 t.s 0 t.line k3 (Nat.le_refl _) hr hgw (.inl ⟨rfl,rfl⟩) (Nat.lt_succ_self _) h3
 clear k3 k23 h3 p0 p2 n0 n2 h2 k2 hw3;go_wp2
 exact bodyPost_ret (v:=.agg #[.int .i64 3,(.string (za t.s)),(.int .i64 0),.slice none 0 0,.int .i64 t.line]) (by simp [results,Tryz.results176,go_sem,z0,z1,z2,z3,z4]) rfl HP.out
theorem qh (r g o cap:Nat) (t:Tk) (ts:List Tk) (w:World) (res:PR Ex) (h:zg r g o cap (t::ts) w) (hk:t.k=1)
  (hn:∀w1,zg r g o cap (t::ts) w1→zb r w w1→Calls Tryz.prog 195 #[.pointer (some ⟨r,0,none⟩)] w1 (zI r g w1 res)) :
  Calls Tryz.prog 176 #[.pointer (some ⟨r,0,none⟩)] w (zI r g w res):=by
 have hr:=h.lt.1;have hgw:=h.lt.2;have h0:=h.alloc Ze;have ch:=ye r g o cap t ts _ h0;obtain ⟨w2,hw2⟩:∃w2,w2=((w.alloc Ze).alloc (ZK t)).alloc (.cells #[.int .i64 1,.string (za t.s),.int .i64 t.n,.int .i64 t.line,.int .i64 t.at0] 69):=⟨_,rfl⟩;have h2:zg r g o cap (t::ts) w2:=by rw [hw2];exact (h0.alloc _).alloc _
 have k2:zb r w w2:=by rw [hw2];exact (((zb.refl r w).alloc _).alloc _).alloc _
 have n0:w2.heap[w.heap.size]?=some Ze:=by
  rw [hw2,Below.heap_alloc _ _ _ (by simp;omega),Below.heap_alloc _ _ _ (by simp)]
  exact World.alloc_heap_new _ _
 have n2:w2.heap[w.heap.size+1+1]?=some (.cells #[.int .i64 1,.string (za t.s),.int .i64 t.n,.int .i64 t.line,.int .i64 t.at0] 69):=by
  have hx:=World.alloc_heap_new ((w.alloc Ze).alloc (ZK t)) (.cells #[.int .i64 1,.string (za t.s),.int .i64 t.n,.int .i64 t.line,.int .i64 t.at0] 69);rw [←hw2,show ((w.alloc Ze).alloc (ZK t)).heap.size=w.heap.size+1+1 by simp] at hx
  exact hx
 have hl2:w.heap.size+1+1<w2.heap.size:=(Array.getElem?_eq_some_iff.1 n2).1;have HW2:Hid (w2=((w.alloc Ze).alloc (ZK t)).alloc (.cells #[.int .i64 1,.string (za t.s),.int .i64 t.n,.int .i64 t.line,.int .i64 t.at0] 69)):=hw2;clear h h0 hw2;have cs:=hn w2 h2 k2;clear hn
 go_enter Tryz.func176,Tryz.ntmps176
 go_wp2_with fail
 refine ch.mono ?_;clear ch;rintro e w1 ⟨rfl,rfl⟩;simp only [Xc];go_wp2_with fail
 rw [←HW2.out];refine cs.mono ?_;clear cs HW2;rintro e w3 ⟨hk3,hpost⟩;have k3:zb r w w3:=k2.trans hk3;rcases res with a | ⟨x,us⟩
 ·obtain rfl:=hpost
  exact ⟨rfl,k3,rfl⟩
 ·obtain ⟨v,o3,cap3,rfl,hx,hrd⟩:=hpost
  obtain ⟨a,b,c,d0,d1,d2,l,rfl⟩:=hx.agg;have p0:=(hk3.block _ (Array.getElem?_eq_some_iff.1 n0).1 (by omega)).trans n0
  obtain ⟨q0,q1,q2,q3,q4,qf⟩:=zl p0;obtain ⟨z0,z1,z2,z3,z4⟩:=zt p0 (.int .i64 a) (.string b) (.int .i64 c) (.slice d0 d1 d2) (.int .i64 l)
  have HP:Hid (zI r g w (.ok (x,us)) (.returned (.agg #[.int .i64 a,.string b,.int .i64 c,.slice d0 d1 d2,.int .i64 l])) (set5 w3 w.heap.size (.int .i64 a) (.string b) (.int .i64 c) (.slice d0 d1 d2) (.int .i64 l))) :=
   zI.of_set5' k3 (Nat.le_refl _) hr hgw hx (by omega) hrd
  clear k3 hk3 p0 n0 n2 h2 k2 hx hrd;go_wp2
  exact bodyPost_ret (v:=.agg #[.int .i64 a,.string b,.int .i64 c,.slice d0 d1 d2,.int .i64 l]) (by simp [results,Tryz.results176,go_sem,z0,z1,z2,z3,z4]) rfl HP.out
theorem qi (r g o cap:Nat) (t:Tk) (ts:List Tk) (w:World) (hi:zo t [116,114,117,101]=true) (h:zg r g o cap (t::ts) w) (hE:zk (t::ts)) (hk1:t.k≠1) (hk2:t.k≠2) (hk3:t.k≠3)  :
  Calls Tryz.prog 176 #[.pointer (some ⟨r,0,none⟩)] w (zI r g w (.ok (.mk 2 [] 1 [] t.line,ts))):=by
 have hr:=h.lt.1;have hgw:=h.lt.2;have h0:=h.alloc Ze;have ch:=ye r g o cap t ts _ h0;obtain ⟨w2,hw2⟩:∃w2,w2=((w.alloc Ze).alloc (ZK t)).alloc (ZK t):=⟨_,rfl⟩;have h2:zg r g o cap (t::ts) w2:=by rw [hw2];exact (h0.alloc _).alloc _
 have k2:zb r w w2:=by rw [hw2];exact (((zb.refl r w).alloc _).alloc _).alloc _
 have n0:w2.heap[w.heap.size]?=some Ze:=by
  rw [hw2,Below.heap_alloc _ _ _ (by simp;omega),Below.heap_alloc _ _ _ (by simp)]
  exact World.alloc_heap_new _ _
 have n2:w2.heap[w.heap.size+1+1]?=some (ZK t):=by
  have hx:=World.alloc_heap_new ((w.alloc Ze).alloc (ZK t)) (ZK t);rw [←hw2,show ((w.alloc Ze).alloc (ZK t)).heap.size=w.heap.size+1+1 by simp] at hx
  exact hx
 have hl2:w.heap.size+1+1<w2.heap.size:=(Array.getElem?_eq_some_iff.1 n2).1;have HW2:Hid (w2=((w.alloc Ze).alloc (ZK t)).alloc (ZK t)):=hw2;have HK2:Hid (zb r w w2):=k2;have HN0:Hid (w2.heap[w.heap.size]?=some Ze):=n0;have HN2:Hid (w2.heap[w.heap.size+1+1]?=some (ZK t)):=n2;have hk1':¬(t.k:Int)=1:=by omega
 have hk2':¬(t.k:Int)=2:=by omega
 have hk3':¬(t.k:Int)=3:=by omega
 clear h h0 hw2 k2 n0 n2
 go_enter Tryz.func176,Tryz.ntmps176
 go_wp2_with fail
 refine ch.mono ?_;clear ch;rintro e w1 ⟨rfl,rfl⟩;simp only [Xc];have HKw2:Hid (zb r w2 w2):=zb.refl r w2;have HRw2:Hid (zg r g o cap (t::ts) w2):=h2;clear h2;have cs:=Zu r g o cap t ts [116,114,117,101] w2 HRw2.out (fun hi=>(hE.tail (zi hi)).ne)
 rw [hi] at cs;go_wp2_with fail
 rw [←HW2.out];refine cs.mono ?_;clear cs;rintro e w9 ⟨rfl,hkx,hrx⟩;have k29:zb r w2 w9:=HKw2.out.trans hkx;have hr9:zg r g (o+5) (cap-1) ts w9:=by simpa using hrx
 have p0:=(k29.block _ (by omega) (by omega)).trans HN0.out
 have p2:=(k29.block _ hl2 (by omega)).trans HN2.out
 obtain ⟨c0,c1,c2,c3,c4,-⟩:=zl p2;obtain ⟨q0,q1,q2,q3,q4,qf⟩:=zl p0;obtain ⟨z0,z1,z2,z3,z4⟩:=zt p0 (.int .i64 2) (.string ⟨#[]⟩) (.int .i64 1) (.slice none 0 0) (.int .i64 t.line)
 have HP:Hid (zI r g w (.ok (.mk 2 [] 1 [] t.line,ts)) (.returned (.agg #[.int .i64 2,.string ⟨#[]⟩,.int .i64 1,.slice none 0 0,.int .i64 t.line])) (set5 w9 w.heap.size (.int .i64 2) (.string ⟨#[]⟩) (.int .i64 1) (.slice none 0 0) (.int .i64 t.line))) :=
  zI.of_set5 (B:=w.heap.size+1) 2 [] 1 t.line (HK2.out.trans k29) (Nat.le_refl _) hr hgw (.inl ⟨rfl,rfl⟩) (Nat.lt_succ_self _) hr9
 clear k29 hr9 p0 p2 hkx hrx;go_wp2
 exact bodyPost_ret (v:=.agg #[.int .i64 2,.string ⟨#[]⟩,.int .i64 1,.slice none 0 0,.int .i64 t.line]) (by simp [results,Tryz.results176,go_sem,z0,z1,z2,z3,z4]) rfl HP.out
theorem Ud (r g o cap:Nat) (t:Tk) (ts:List Tk) (w:World) (hi:zo t [102,97,108,115,101]=true) (h:zg r g o cap (t::ts) w) (hE:zk (t::ts)) (hk1:t.k≠1) (hk2:t.k≠2) (hk3:t.k≠3) (hiT:zo t [116,114,117,101]=false) :
  Calls Tryz.prog 176 #[.pointer (some ⟨r,0,none⟩)] w (zI r g w (.ok (.mk 2 [] 0 [] t.line,ts))):=by
 have hr:=h.lt.1;have hgw:=h.lt.2;have h0:=h.alloc Ze;have ch:=ye r g o cap t ts _ h0;obtain ⟨w2,hw2⟩:∃w2,w2=((w.alloc Ze).alloc (ZK t)).alloc (ZK t):=⟨_,rfl⟩;have h2:zg r g o cap (t::ts) w2:=by rw [hw2];exact (h0.alloc _).alloc _
 have k2:zb r w w2:=by rw [hw2];exact (((zb.refl r w).alloc _).alloc _).alloc _
 have n0:w2.heap[w.heap.size]?=some Ze:=by
  rw [hw2,Below.heap_alloc _ _ _ (by simp;omega),Below.heap_alloc _ _ _ (by simp)]
  exact World.alloc_heap_new _ _
 have n2:w2.heap[w.heap.size+1+1]?=some (ZK t):=by
  have hx:=World.alloc_heap_new ((w.alloc Ze).alloc (ZK t)) (ZK t);rw [←hw2,show ((w.alloc Ze).alloc (ZK t)).heap.size=w.heap.size+1+1 by simp] at hx
  exact hx
 have hl2:w.heap.size+1+1<w2.heap.size:=(Array.getElem?_eq_some_iff.1 n2).1;have HW2:Hid (w2=((w.alloc Ze).alloc (ZK t)).alloc (ZK t)):=hw2;have HK2:Hid (zb r w w2):=k2;have HN0:Hid (w2.heap[w.heap.size]?=some Ze):=n0;have HN2:Hid (w2.heap[w.heap.size+1+1]?=some (ZK t)):=n2;have hk1':¬(t.k:Int)=1:=by omega
 have hk2':¬(t.k:Int)=2:=by omega
 have hk3':¬(t.k:Int)=3:=by omega
 clear h h0 hw2 k2 n0 n2
 go_enter Tryz.func176,Tryz.ntmps176
 go_wp2_with fail
 refine ch.mono ?_;clear ch;rintro e w1 ⟨rfl,rfl⟩;simp only [Xc];have HKw2:Hid (zb r w2 w2):=zb.refl r w2;have HRw2:Hid (zg r g o cap (t::ts) w2):=h2;clear h2;have cs:=Zu r g o cap t ts [116,114,117,101] w2 HRw2.out (fun hi=>(hE.tail (zi hi)).ne)
 rw [hiT] at cs;go_wp2_with fail
 rw [←HW2.out];refine cs.mono ?_;clear cs;rintro e w3 ⟨rfl,hkx,hrx⟩;have HKw3:Hid (zb r w2 w3):=HKw2.out.trans hkx;have HRw3:Hid (zg r g o cap (t::ts) w3):=show zg _ _ _ _ _ _ by simpa using hrx
 clear hkx hrx HKw2 HRw2;clear HW2;have cs:=Zu r g o cap t ts [102,97,108,115,101] w3 HRw3.out (fun hi=>(hE.tail (zi hi)).ne)
 rw [hi] at cs;go_wp2_with fail
 refine cs.mono ?_;clear cs;rintro e w9 ⟨rfl,hkx,hrx⟩;have k29:zb r w2 w9:=HKw3.out.trans hkx;have hr9:zg r g (o+5) (cap-1) ts w9:=by simpa using hrx
 have p0:=(k29.block _ (by omega) (by omega)).trans HN0.out
 have p2:=(k29.block _ hl2 (by omega)).trans HN2.out
 obtain ⟨c0,c1,c2,c3,c4,-⟩:=zl p2;obtain ⟨q0,q1,q2,q3,q4,qf⟩:=zl p0;obtain ⟨z0,z1,z2,z3,z4⟩:=zt p0 (.int .i64 2) (.string ⟨#[]⟩) (.int .i64 0) (.slice none 0 0) (.int .i64 t.line)
 have HP:Hid (zI r g w (.ok (.mk 2 [] 0 [] t.line,ts)) (.returned (.agg #[.int .i64 2,.string ⟨#[]⟩,.int .i64 0,.slice none 0 0,.int .i64 t.line])) (set5 w9 w.heap.size (.int .i64 2) (.string ⟨#[]⟩) (.int .i64 0) (.slice none 0 0) (.int .i64 t.line))) :=
  zI.of_set5 (B:=w.heap.size+1) 2 [] 0 t.line (HK2.out.trans k29) (Nat.le_refl _) hr hgw (.inl ⟨rfl,rfl⟩) (Nat.lt_succ_self _) hr9
 clear k29 hr9 p0 p2 hkx hrx;go_wp2
 exact bodyPost_ret (v:=.agg #[.int .i64 2,.string ⟨#[]⟩,.int .i64 0,.slice none 0 0,.int .i64 t.line]) (by simp [results,Tryz.results176,go_sem,z0,z1,z2,z3,z4]) rfl HP.out
def xJ (t:Tk) (res:PR Ex):PR Ex :=
 if zo t [40]=true then
  match res with
  | .error a=>.error a
  | .ok (e,us)=>if zo (zz us) [41]=true then .ok (e,us.tail) else .error (zz us).at0
 else .error t.at0
theorem X4 (r g o cap:Nat) (t:Tk) (ts:List Tk) (w:World) (res:PR Ex) (hEnd:∀l us,res=.ok (l,us)→zk us) (hex:zo t [40]=true→∀w1 o1 cap1,zg r g o1 cap1 ts w1→zb r w w1→Calls Tryz.prog 36 #[.pointer (some ⟨r,0,none⟩)] w1 (zI r g w1 res)) (h:zg r g o cap (t::ts) w) (hE:zk (t::ts)) (hk1:t.k≠1) (hk2:t.k≠2) (hk3:t.k≠3) (hiT:zo t [116,114,117,101]=false) (hiF:zo t [102,97,108,115,101]=false) (hiN:zo t [110,101,119]=false) (hiB:zo t [91]=false) :
  Calls Tryz.prog 176 #[.pointer (some ⟨r,0,none⟩)] w (zI r g w (xJ t res)):=by
 generalize hres:xJ t res=R;have hr:=h.lt.1;have hgw:=h.lt.2;have h0:=h.alloc Ze;have ch:=ye r g o cap t ts _ h0;obtain ⟨w2,hw2⟩:∃w2,w2=((w.alloc Ze).alloc (ZK t)).alloc (ZK t):=⟨_,rfl⟩;have h2:zg r g o cap (t::ts) w2:=by rw [hw2];exact (h0.alloc _).alloc _
 have k2:zb r w w2:=by rw [hw2];exact (((zb.refl r w).alloc _).alloc _).alloc _
 have n0:w2.heap[w.heap.size]?=some Ze:=by
  rw [hw2,Below.heap_alloc _ _ _ (by simp;omega),Below.heap_alloc _ _ _ (by simp)]
  exact World.alloc_heap_new _ _
 have n2:w2.heap[w.heap.size+1+1]?=some (ZK t):=by
  have hx:=World.alloc_heap_new ((w.alloc Ze).alloc (ZK t)) (ZK t);rw [←hw2,show ((w.alloc Ze).alloc (ZK t)).heap.size=w.heap.size+1+1 by simp] at hx
  exact hx
 have hl2:w.heap.size+1+1<w2.heap.size:=(Array.getElem?_eq_some_iff.1 n2).1;have HW2:Hid (w2=((w.alloc Ze).alloc (ZK t)).alloc (ZK t)):=hw2;have HK2:Hid (zb r w w2):=k2;have HN0:Hid (w2.heap[w.heap.size]?=some Ze):=n0;have HN2:Hid (w2.heap[w.heap.size+1+1]?=some (ZK t)):=n2;have hk1':¬(t.k:Int)=1:=by omega
 have hk2':¬(t.k:Int)=2:=by omega
 have hk3':¬(t.k:Int)=3:=by omega
 clear h h0 hw2 k2 n0 n2
 go_enter Tryz.func176,Tryz.ntmps176
 go_wp2_with fail
 refine ch.mono ?_;clear ch;rintro e w1 ⟨rfl,rfl⟩;simp only [Xc];have HKw2:Hid (zb r w2 w2):=zb.refl r w2;have HRw2:Hid (zg r g o cap (t::ts) w2):=h2;clear h2;have cs:=Zu r g o cap t ts [116,114,117,101] w2 HRw2.out (fun hi=>(hE.tail (zi hi)).ne)
 rw [hiT] at cs;go_wp2_with fail
 rw [←HW2.out];refine cs.mono ?_;clear cs;rintro e w3 ⟨rfl,hkx,hrx⟩;have HKw3:Hid (zb r w2 w3):=HKw2.out.trans hkx;have HRw3:Hid (zg r g o cap (t::ts) w3):=show zg _ _ _ _ _ _ by simpa using hrx
 clear hkx hrx HKw2 HRw2;clear HW2;have cs:=Zu r g o cap t ts [102,97,108,115,101] w3 HRw3.out (fun hi=>(hE.tail (zi hi)).ne)
 rw [hiF] at cs;go_wp2_with fail
 refine cs.mono ?_;clear cs;rintro e w4 ⟨rfl,hkx,hrx⟩;have HKw4:Hid (zb r w2 w4):=HKw3.out.trans hkx;have HRw4:Hid (zg r g o cap (t::ts) w4):=show zg _ _ _ _ _ _ by simpa using hrx
 clear hkx hrx HKw3 HRw3;have cs:=Zu r g o cap t ts [110,101,119] w4 HRw4.out (fun hi=>(hE.tail (zi hi)).ne)
 rw [hiN] at cs;go_wp2_with fail
 refine cs.mono ?_;clear cs;rintro e w5 ⟨rfl,hkx,hrx⟩;have HKw5:Hid (zb r w2 w5):=HKw4.out.trans hkx;have HRw5:Hid (zg r g o cap (t::ts) w5):=show zg _ _ _ _ _ _ by simpa using hrx
 clear hkx hrx HKw4 HRw4;have cs:=Zu r g o cap t ts [91] w5 HRw5.out (fun hi=>(hE.tail (zi hi)).ne)
 rw [hiB] at cs;go_wp2_with fail
 refine cs.mono ?_;clear cs;rintro e w6 ⟨rfl,hkx,hrx⟩;have HKw6:Hid (zb r w2 w6):=HKw5.out.trans hkx;have HRw6:Hid (zg r g o cap (t::ts) w6):=show zg _ _ _ _ _ _ by simpa using hrx
 clear hkx hrx HKw5 HRw5;have cn:=yF r g o cap t ts [40] w6 HRw6.out (fun hi=>(hE.tail (zi hi)).ne)
 by_cases hi:zo t [40]=true
 ·simp only [if_pos hi] at cn
  go_wp2_with fail
  refine cn.mono ?_;clear cn;rintro e w9 ⟨hkx,rfl,hr9⟩;have k29:zb r w2 w9:=HKw6.out.trans hkx;have c9:=hex hi w9 _ _ hr9 (HK2.out.trans k29);have HK9:Hid (zb r w2 w9):=k29;clear hex hkx hr9 k29 HKw6 HRw6;go_wp2_with fail
  refine c9.mono ?_;clear c9;rintro e w10 ⟨hk10,hpost⟩;have HK10:Hid (zb r w2 w10):=HK9.out.trans hk10;rcases res with a | ⟨x,us⟩
  ·obtain rfl:=hpost
   obtain rfl:R=.error a:=by rw [←hres];unfold xJ;rw [if_pos hi]
   exact ⟨rfl,HK2.out.trans HK10.out,rfl⟩
  ·obtain ⟨v,o3,cap3,rfl,hx,hrd⟩:=hpost
   obtain ⟨a,b,c,d0,d1,d2,l,rfl⟩:=hx.agg;have hE3:=hEnd x us rfl;obtain ⟨t3,ts3,rfl⟩:=hE3.cons;obtain ⟨w11,hw11⟩:∃w11,w11=w10.alloc (.cells #[.int .i64 a,.string b,.int .i64 c,.slice d0 d1 d2,.int .i64 l] 40):=⟨_,rfl⟩;have h11:zg r g o3 cap3 (t3::ts3) w11:=by rw [hw11];exact hrd.alloc _
   have b11:w11.heap[w10.heap.size]?=some (.cells #[.int .i64 a,.string b,.int .i64 c,.slice d0 d1 d2,.int .i64 l] 40 (0,0)):=by rw [hw11];exact World.alloc_heap_new _ _
   have HK11:Hid (zb r w2 w11):=show zb _ _ _ by rw [hw11];exact HK10.out.alloc _
   have hx11:Zc w9.heap.size w11 x (.agg #[.int .i64 a,.string b,.int .i64 c,.slice d0 d1 d2,.int .i64 l]):=by rw [hw11];exact Zc.kept hx (by simp) fun k _ hlt=>Below.heap_alloc _ _ _ hlt
   have HX11:Hid (Zc w9.heap.size w11 x (.agg #[.int .i64 a,.string b,.int .i64 c,.slice d0 d1 d2,.int .i64 l])):=hx11;have HB11:Hid (w11.heap[w10.heap.size]?=some (.cells #[.int .i64 a,.string b,.int .i64 c,.slice d0 d1 d2,.int .i64 l] 40 (0,0))):=b11;have cn:=yF r g o3 cap3 t3 ts3 [41] w11 h11 (fun hi=>(hE3.tail (zi hi)).ne)
   have HW11:Hid (w11=w10.alloc (.cells #[.int .i64 a,.string b,.int .i64 c,.slice d0 d1 d2,.int .i64 l] 40)):=hw11;have hs9:=HK9.out.size;have hs10:=hk10.size;have hlt11:w10.heap.size<w11.heap.size:=(Array.getElem?_eq_some_iff.1 b11).1;clear hw11 h11 b11 hx11 hx hrd hk10
   by_cases hm:zo t3 [41]=true
   ·simp only [if_pos hm] at cn
    obtain rfl:R=.ok (x,ts3):=by rw [←hres];unfold xJ;rw [if_pos hi];simp only [zC,hm,if_true,List.tail_cons]
    go_wp2_with fail
    rw [←HW11.out];refine cn.mono ?_;clear cn HW11;rintro e w12 ⟨hk12,rfl,hr12⟩;have k12:=HK11.out.trans hk12;have p0:=(k12.block _ (by omega) (by omega)).trans HN0.out
    have pB:=(hk12.block _ hlt11 (by omega)).trans HB11.out
    obtain ⟨c0,c1,c2,c3,c4,-⟩:=zl pB;obtain ⟨q0,q1,q2,q3,q4,qf⟩:=zl p0;obtain ⟨z0,z1,z2,z3,z4⟩:=zt p0 (.int .i64 a) (.string b) (.int .i64 c) (.slice d0 d1 d2) (.int .i64 l);have hx12:Zc w9.heap.size w12 x (.agg #[.int .i64 a,.string b,.int .i64 c,.slice d0 d1 d2,.int .i64 l]):=Zc.kept HX11.out hk12.size fun k hB hlt=>hk12.block k hlt (by omega)
    have HP:Hid (zI r g w (.ok (x,ts3)) (.returned (.agg #[.int .i64 a,.string b,.int .i64 c,.slice d0 d1 d2,.int .i64 l])) (set5 w12 w.heap.size (.int .i64 a) (.string b) (.int .i64 c) (.slice d0 d1 d2) (.int .i64 l))) :=
     zI.of_set5' (HK2.out.trans k12) (Nat.le_refl _) hr hgw hx12 (by omega) hr12
    clear k12 hk12 hr12 p0 pB hx12;go_wp2
    exact bodyPost_ret (v:=.agg #[.int .i64 a,.string b,.int .i64 c,.slice d0 d1 d2,.int .i64 l]) (by simp [results,Tryz.results176,go_sem,z0,z1,z2,z3,z4]) rfl HP.out
   ·simp only [if_neg hm] at cn
    obtain rfl:R=.error t3.at0:=by rw [←hres];unfold xJ;rw [if_pos hi];simp only [zC,if_neg hm]
    go_wp2_with fail
    rw [←HW11.out];refine cn.mono ?_;clear cn;rintro e w12 ⟨hk12,rfl⟩;exact ⟨rfl,HK2.out.trans (HK11.out.trans hk12),rfl⟩
 ·simp only [if_neg hi] at cn
  obtain rfl:R=.error t.at0:=by rw [←hres];unfold xJ;rw [if_neg hi]
  clear hex hEnd;go_wp2_with fail
  refine cn.mono ?_;clear cn;rintro e w9 ⟨hkx,rfl⟩;exact ⟨rfl,HK2.out.trans (HKw6.out.trans hkx),rfl⟩
end Go.Proofs.YtdgpapchkpnijaaGreatDoor
