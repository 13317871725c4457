import Derived.Test.YtcphojjpapgblaaGreatDoorSDMath
import Derived.Test.YtcphojjpapgblaaGreatDoorMC15
import Derived.Test.YtcphojjpapgblaaGreatDoorMC6
import Derived.Test.YtcphojjpapgblaaGreatDoorMC18
import Derived.Deep.RegionWith
import Derived.Deep.CutRange
import Derived.Test.YtcphojjpapgblaaGreatDoorMC22
namespace Go.Proofs.YtcphojjpapgblaaGreatDoor
open Go.RowKit Go.Shelf
structure XJ (r g p cap:Nat) (TS:List Tk) (σ:RS) (w:World):Prop where
 rest:σ.2=TS.drop p
 lt:p<TS.length
 blk:w.heap[r]?=some (.cells #[.slice (some ⟨g,0,none⟩) TS.length cap,.int .i64 (p:Int),.bool σ.1] 62 (0,0))
 other:r≠g
 glt:g<w.heap.size
 hcap:TS.length≤cap
 hmax:cap≤maxLen
 few:TS.length≤1099511627776
 toks:∀j u,(ZD TS)[j]?=some u→w.cell? ⟨g,j,none⟩=some u
 ends:zi σ.2
def yS (r g:Nat) (σ:RS) (w:World):Prop:=∃p cap TS,XJ r g p cap TS σ w
theorem XJ.keep {r g p cap:Nat} {TS:List Tk} {σ:RS} {w w':World} (h:XJ r g p cap TS σ w) (hr:w'.heap[r]?=w.heap[r]?) (hg:w'.heap[g]?=w.heap[g]?):XJ r g p cap TS σ w' where
 rest:=h.rest
 lt:=h.lt
 blk:=hr.trans h.blk
 other:=h.other
 glt:=by
  have o:=h.glt;rw [Array.getElem?_eq_getElem o] at hg;exact (Array.getElem?_eq_some_iff.1 hg).1
 hcap:=h.hcap
 hmax:=h.hmax
 few:=h.few
 toks:=fun j u hj=>by rw [World.cell?_of_block hg];exact h.toks j u hj
 ends:=h.ends
theorem yS.keep {r g:Nat} {σ:RS} {w w':World} (h:yS r g σ w) (hr:w'.heap[r]?=w.heap[r]?) (hg:w'.heap[g]?=w.heap[g]?):yS r g σ w':=by
 obtain ⟨p,o,y,h⟩:=h;exact ⟨p,o,y,h.keep hr hg⟩
theorem yS.lt {r g:Nat} {σ:RS} {w:World} (h:yS r g σ w):r<w.heap.size∧g<w.heap.size:=by
 obtain ⟨p,o,y,h⟩:=h;exact ⟨(Array.getElem?_eq_some_iff.1 h.blk).1,h.glt⟩
theorem yS.ends {r g:Nat} {σ:RS} {w:World} (h:yS r g σ w):zi σ.2:=by
 obtain ⟨p,o,y,h⟩:=h;exact h.ends
theorem yS.few {r g:Nat} {σ:RS} {w:World} (h:yS r g σ w):σ.2.length≤1099511627776:=by
 obtain ⟨p,o,y,h⟩:=h
 have:=h.few
 rw [h.rest,List.length_drop];omega
theorem yS.below {r g:Nat} {σ:RS} {w w':World} (h:yS r g σ w) (hb:Below w.heap.size w w'):yS r g σ w':=h.keep (hb.block _ h.lt.1) (hb.block _ h.lt.2)
theorem yS.alloc {r g:Nat} {σ:RS} {w:World} (h:yS r g σ w) (ob:Obj):yS r g σ (w.alloc ob):=h.keep (Below.heap_alloc _ _ _ h.lt.1) (Below.heap_alloc _ _ _ h.lt.2)
theorem XJ.step {r g p cap:Nat} {TS:List Tk} {σ:RS} {w:World} (h:XJ r g p cap TS σ w) (hk:(zu σ.2).k≠0):XJ r g (p+1) cap TS (σ.1,σ.2.tail) (w.setCell ⟨r,1,none⟩ (.int .i64 ((p:Int)+1))) where
 rest:=by show σ.2.tail=_;rw [h.rest,List.tail_drop]
 lt:=by
  have y:=Z2 h.ends hk;have o:=List.length_pos_iff.2 y.ne;rw [h.rest,List.tail_drop,List.length_drop] at o;omega
 blk:=zo _ h.blk
 other:=h.other
 glt:=by simpa using h.glt
 hcap:=h.hcap
 hmax:=h.hmax
 few:=h.few
 toks:=fun j u hj=>by
  have z:=h.other;rw [World.cell?_setCell_other _ _ _ _ (by simp)]
  exact h.toks j u hj
 ends:=Z2 h.ends hk
theorem XJ.fail {r g p cap:Nat} {TS:List Tk} {σ:RS} {w:World} (h:XJ r g p cap TS σ w):XJ r g p cap TS (true,σ.2) (w.setCell ⟨r,2,none⟩ (.bool true)) where
 rest:=h.rest
 lt:=h.lt
 blk:=zo _ h.blk
 other:=h.other
 glt:=by simpa using h.glt
 hcap:=h.hcap
 hmax:=h.hmax
 few:=h.few
 toks:=fun j u hj=>by
  have o:=h.other;rw [World.cell?_setCell_other _ _ _ _ (by simp)]
  exact h.toks j u hj
 ends:=h.ends
def zhN (r:Nat) (w:World):Nat:=match w.cell? ⟨r,0,none⟩,w.cell? ⟨r,1,none⟩ with | some (.slice _ n _),some (.int _ p)=>n-p.toNat | _,_=>0
theorem zht {w:World} {N:Nat} {x0 x1 x2:Value} {ty:TypeId} (h:w.heap[N]?=some (.cells #[x0,x1,x2] ty (0,0))):w.cell? ⟨N,0,none⟩=some x0∧w.cell? ⟨N,1,none⟩=some x1∧w.cell? ⟨N,2,none⟩=some x2∧∀j,w.frozen? ⟨N,j,none⟩=false:=by
 refine ⟨?_,?_,?_,fun j=>?_⟩
 ·simp only [World.cell?,h];rfl
 ·simp only [World.cell?,h];rfl
 ·simp only [World.cell?,h];rfl
 ·simp only [World.frozen?,h];simp
theorem yS.left {r g:Nat} {σ:RS} {w:World} (h:yS r g σ w):zhN r w=σ.2.length:=by
 obtain ⟨p,o,A,h⟩:=h;obtain ⟨z,y,-,-⟩:=zht h.blk
 unfold zhN
 rw [z,y,h.rest,List.length_drop]
 simp
theorem qQ (TS:List Tk):∀p,(ZD TS).drop (p*5)=ZD (TS.drop p):=by
 induction TS with
 | nil=>intro p;simp [ZD]
 | cons t ts ih =>
  intro p;cases p with
  | zero=>simp
  | succ p =>
   rw [List.drop_succ_cons,←ih p]
   unfold ZD
   rw [List.flatMap_cons];rw [show (p+1)*5=5+p*5 by omega,←List.drop_drop]
   rfl
theorem XJ.tok {r g p cap:Nat} {TS:List Tk} {σ:RS} {w:World} (h:XJ r g p cap TS σ w) (t:Tk) (ht:t=zu σ.2):w.cell? ⟨g,p*5,none⟩=some (.int .i64 t.k)∧w.cell? ⟨g,p*5+1,none⟩=some (.string (zb t.s))∧w.cell? ⟨g,p*5+2,none⟩=some (.int .i64 t.n)∧w.cell? ⟨g,p*5+3,none⟩=some (.int .i64 t.line)∧w.cell? ⟨g,p*5+4,none⟩=some (.int .i64 t.at0):=by
 have o:∀j u,[Value.int .i64 t.k,.string (zb t.s),.int .i64 t.n,.int .i64 t.line,.int .i64 t.at0][j]?=some u→w.cell? ⟨g,p*5+j,none⟩=some u:=fun j u hj=>by
  refine h.toks _ _ ?_;rw [←List.getElem?_drop,qQ,←h.rest];obtain ⟨t',ts,e⟩:=h.ends.cons;rw [e] at ht ⊢
  have:t=t':=ht
  subst this
  unfold ZD
  rw [List.flatMap_cons,List.getElem?_append_left (by have:=(List.getElem?_eq_some_iff.1 hj).1;simpa using this)]
  exact hj
 exact ⟨o 0 _ rfl,o 1 _ rfl,o 2 _ rfl,o 3 _ rfl,o 4 _ rfl⟩
def Y0 (r g:Nat) (w:World) (q:Ex × RS) (e:Ending) (w':World):Prop:=zc r w w'∧∃v,e=.returned v∧ZI w.heap.size w' q.1 v∧yS r g q.2 w'
theorem Y0.of_set5 {r g N B:Nat} {w w5:World} {σ:RS} {l:List Ex} {v:Value} (k:Nat) (s:List UInt8) (n:Int) (line:Nat) (hK:zc r w w5) (hN:w.heap.size≤N) (hr:r<w.heap.size) (hg:g<w.heap.size) (hrow:yV B w5 l v) (hB:N<B) (hrd:yS r g σ w5) :
  Y0 r g w (.mk k s n l line,σ) (.returned (.agg #[.int .i64 k,.string (zb s),.int .i64 n,v,.int .i64 line])) (set5 w5 N (.int .i64 k) (.string (zb s)) (.int .i64 n) v (.int .i64 line)):=by
 refine ⟨ZN hK hN _ _ _ _ _,_,rfl,?_,hrd.keep (zr _ _ _ _ _ _ _ (by omega)) (zr _ _ _ _ _ _ _ (by omega))⟩
 have h:=hrow.kept (w':=set5 w5 N (.int .i64 k) (.string (zb s)) (.int .i64 n) v (.int .i64 line)) (by simp) fun k hB _=>zr _ _ _ _ _ _ _ (by omega)
 exact ZI.of_row (h.mono (by omega)) k s n line
theorem Y0.of_set5' {r g N B:Nat} {w w5:World} {σ:RS} {x:Ex} {a b c d e:Value} (hK:zc r w w5) (hN:w.heap.size≤N) (hr:r<w.heap.size) (hg:g<w.heap.size) (hx:ZI B w5 x (.agg #[a,b,c,d,e])) (hB:N<B) (hrd:yS r g σ w5) :
  Y0 r g w (x,σ) (.returned (.agg #[a,b,c,d,e])) (set5 w5 N a b c d e):=by
 refine ⟨ZN hK hN _ _ _ _ _,_,rfl,?_,hrd.keep (zr _ _ _ _ _ _ _ (by omega)) (zr _ _ _ _ _ _ _ (by omega))⟩
 exact ZI.mono (ZI.kept hx (w':=set5 w5 N a b c d e) (by simp) fun k hB _=>zr _ _ _ _ _ _ _ (by omega)) (by omega)
structure Y4 (r g N:Nat) (w:World) (e:Ex) (σ:RS) (a:Int) (b:ByteArray) (c:Int) (d0:Option Addr) (d1 d2:Nat) (l:Int) (wr:World):Prop where
 blk:wr.heap[N]?=some (.cells #[.int .i64 a,.string b,.int .i64 c,.slice d0 d1 d2,.int .i64 l] 45 (0,0))
 ex:zX (fun k=>w.heap.size<k∧k≠N) wr e (.agg #[.int .i64 a,.string b,.int .i64 c,.slice d0 d1 d2,.int .i64 l])
 rd:yS r g σ wr
 kept:zc r w wr
 res:wr.heap[w.heap.size]?=some Zz
theorem Y4.leave {r g N:Nat} {w wr W:World} {e:Ex} {σ σ':RS} {a:Int} {b:ByteArray} {c:Int} {d0:Option Addr} {d1 d2:Nat} {l:Int} (h:Y4 r g N w e σ a b c d0 d1 d2 l wr) (hr:r<w.heap.size) (hg:g<w.heap.size) (hNw:w.heap.size<N) (hK:zc r wr W) (hrd:yS r g σ' W) :
  W.heap[N]?=some (.cells #[.int .i64 a,.string b,.int .i64 c,.slice d0 d1 d2,.int .i64 l] 45 (0,0))∧W.heap[w.heap.size]?=some Zz ∧
  Y0 r g w (e,σ') (.returned (.agg #[.int .i64 a,.string b,.int .i64 c,.slice d0 d1 d2,.int .i64 l])) (set5 W w.heap.size (.int .i64 a) (.string b) (.int .i64 c) (.slice d0 d1 d2) (.int .i64 l)):=by
 refine ⟨(hK.block _ (Array.getElem?_eq_some_iff.1 h.blk).1 (by omega)).trans h.blk,(hK.block _ (Array.getElem?_eq_some_iff.1 h.res).1 (by omega)).trans h.res,?_⟩
 refine Y0.of_set5' (B:=w.heap.size+1) (h.kept.trans hK) (Nat.le_refl _) hr hg ?_ (Nat.lt_succ_self _) hrd;exact zX.wide (zX.kept h.ex hK.size fun k hk' hlt=>hK.block k hlt (by omega)) fun k hk'=>hk'.1
theorem Y4.start {r g:Nat} {w w0 w1:World} {x:Ex} {σ:RS} {a:Int} {b:ByteArray} {c:Int} {d0:Option Addr} {d1 d2:Nat} {l:Int} (hsz:w.heap.size<w0.heap.size) (hz:w0.heap[w.heap.size]?=some Zz) (hk0:zc r w w0) (hr:r<w.heap.size) (hk:zc r w0 w1)
  (hx:ZI w0.heap.size w1 x (.agg #[.int .i64 a,.string b,.int .i64 c,.slice d0 d1 d2,.int .i64 l])) (hrd:yS r g σ w1) :
  Y4 r g w1.heap.size w x σ a b c d0 d1 d2 l (w1.alloc (.cells #[.int .i64 a,.string b,.int .i64 c,.slice d0 d1 d2,.int .i64 l] 45)) where
 blk:=World.alloc_heap_new _ _
 ex:=zX.wide (zX.kept (zX.low hx) (by simp) fun k hk _=>Below.heap_alloc _ _ _ hk.2) fun k hk=>⟨by omega,by omega⟩
 rd:=hrd.alloc _
 kept:=(hk0.trans hk).alloc _
 res:=by
  have:=hk.size
  rw [Below.heap_alloc _ _ _ (by omega),hk.block _ (by omega) (by omega)];exact hz
theorem Y4.moved {r g N:Nat} {w wr W:World} {e:Ex} {σ σ':RS} {a:Int} {b:ByteArray} {c:Int} {d0:Option Addr} {d1 d2:Nat} {l:Int} (h:Y4 r g N w e σ a b c d0 d1 d2 l wr) (hr:r<w.heap.size) (hNw:w.heap.size<N) (hK:zc r wr W) (hrd:yS r g σ' W):Y4 r g N w e σ' a b c d0 d1 d2 l W where
 blk:=(hK.block _ (Array.getElem?_eq_some_iff.1 h.blk).1 (by omega)).trans h.blk
 ex:=zX.kept h.ex hK.size fun k hk' hlt=>hK.block k hlt (by omega)
 rd:=hrd
 kept:=h.kept.trans hK
 res:=(hK.block _ (Array.getElem?_eq_some_iff.1 h.res).1 (by omega)).trans h.res
theorem Y4.two {r g N:Nat} {w wr wE w7:World} {e x:Ex} {σ σ7:RS} {a2:Int} {b2:ByteArray} {c2:Int} {p2:Option Addr} {q2 s2:Nat} {l2:Int} {a3:Int} {b3:ByteArray} {c3:Int} {u0:Option Addr} {u1 u2:Nat} {l3:Int}
  (k:Nat) (s:List UInt8) (h:Y4 r g N w e σ a2 b2 c2 p2 q2 s2 l2 wr) (hr:r<w.heap.size) (hg:g<w.heap.size) (hNw:w.heap.size<N) (hkE:zc r wr wE) (hk7:zc r wE w7)
  (hx7:ZI wE.heap.size w7 x (.agg #[.int .i64 a3,.string b3,.int .i64 c3,.slice u0 u1 u2,.int .i64 l3])) (hrd:yS r g σ7 w7) (kv:Value) (hkv:kv=.int .i64 k) (W:World)
  (hW:W=(set5 w7 N kv (.string (zb s)) (.int .i64 0) (.slice (some ⟨w7.heap.size,0,none⟩) 2 2) (.int .i64 l2)).alloc (.cells #[.int .i64 a2,.string b2,.int .i64 c2,.slice p2 q2 s2,.int .i64 l2,.int .i64 a3,.string b3,.int .i64 c3,.slice u0 u1 u2,.int .i64 l3] 45)) :
  Y4 r g N w (.mk k s 0 [e,x] e.line) σ7 k (zb s) 0 (some ⟨w7.heap.size,0,none⟩) 2 2 (e.line:Int) W:=by
 obtain rfl:l2=(e.line:Int):=h.ex.line_eq;have z:=h.moved hr hNw (hkE.trans hk7) hrd;have D:=(Array.getElem?_eq_some_iff.1 z.blk).1;rw [←Xz _ _ _ _ _ _ D] at hW;subst hkv;have I:=hk7.size;have L:=hkE.size;have J:=(Array.getElem?_eq_some_iff.1 h.blk).1;have G:=(Array.getElem?_eq_some_iff.1 z.res).1;have o:=zK.two 45 (c:=[.int .i64 a2,.string b2,.int .i64 c2,.slice p2 q2 s2,.int .i64 (e.line:Int)]) (d:=[.int .i64 a3,.string b3,.int .i64 c3,.slice u0 u1 u2,.int .i64 l3]) z.ex (zX.wide hx7 fun k hk'=>⟨by omega,by omega⟩) rfl rfl ⟨by omega,by omega⟩
 simp only [List.cons_append,List.nil_append] at o;obtain ⟨ob,A⟩:∃ob:Obj,ob=.cells #[.int .i64 a2,.string b2,.int .i64 c2,.slice p2 q2 s2,.int .i64 (e.line:Int),.int .i64 a3,.string b3,.int .i64 c3,.slice u0 u1 u2,.int .i64 l3] 45:=⟨_,rfl⟩;rw [←A] at hW;have y:zK (fun k=>w.heap.size<k∧k≠N) (w7.alloc ob) [e,x] (.slice (some ⟨w7.heap.size,0,none⟩) 2 2):=by rw [A];exact o
 have H:(w7.alloc ob).heap.size=w7.heap.size+1:=by simp
 subst hW;refine ⟨Yl ((Below.heap_alloc _ _ _ D).trans z.blk) _ _ _ _ _,?_,(hrd.alloc ob).keep (zr _ _ _ _ _ _ _ (by omega)) (zr _ _ _ _ _ _ _ (by omega)),ZN (z.kept.alloc _) (by omega) _ _ _ _ _,?_⟩
 ·exact zX.of_row (y.kept (w':=set5 (w7.alloc ob) N (.int .i64 k) (.string (zb s)) (.int .i64 0) (.slice (some ⟨w7.heap.size,0,none⟩) 2 2) (.int .i64 (e.line:Int))) (by simp) fun k hk _=>zr _ _ _ _ _ _ _ hk.2) k s 0 e.line
 ·rw [zr _ _ _ _ _ _ _ (by omega),Below.heap_alloc _ _ _ G];exact z.res
theorem Y4.one {r g N:Nat} {w wr w7:World} {e:Ex} {σ σ7:RS} {a2:Int} {b2:ByteArray} {c2:Int} {p2:Option Addr} {q2 s2:Nat} {l2:Int}
  (k:Nat) (s:List UInt8) (h:Y4 r g N w e σ a2 b2 c2 p2 q2 s2 l2 wr) (hr:r<w.heap.size) (hg:g<w.heap.size) (hNw:w.heap.size<N) (hk7:zc r wr w7) (hrd:yS r g σ7 w7) (kv:Value) (hkv:kv=.int .i64 k) (W:World)
  (hW:W=(set5 w7 N kv (.string (zb s)) (.int .i64 0) (.slice (some ⟨w7.heap.size,0,none⟩) 1 1) (.int .i64 l2)).alloc (.cells #[.int .i64 a2,.string b2,.int .i64 c2,.slice p2 q2 s2,.int .i64 l2] 45)) :
  Y4 r g N w (.mk k s 0 [e] e.line) σ7 k (zb s) 0 (some ⟨w7.heap.size,0,none⟩) 1 1 (e.line:Int) W:=by
 obtain rfl:l2=(e.line:Int):=h.ex.line_eq;have y:=h.moved hr hNw hk7 hrd;have A:=(Array.getElem?_eq_some_iff.1 y.blk).1;rw [←Xz _ _ _ _ _ _ A] at hW;subst hkv;have I:=hk7.size;have J:=(Array.getElem?_eq_some_iff.1 h.blk).1;have G:=(Array.getElem?_eq_some_iff.1 y.res).1;have D:=zK.one 45 (c:=[.int .i64 a2,.string b2,.int .i64 c2,.slice p2 q2 s2,.int .i64 (e.line:Int)]) y.ex rfl ⟨by omega,by omega⟩
 obtain ⟨ob,z⟩:∃ob:Obj,ob=.cells #[.int .i64 a2,.string b2,.int .i64 c2,.slice p2 q2 s2,.int .i64 (e.line:Int)] 45:=⟨_,rfl⟩;rw [←z] at hW;have o:zK (fun k=>w.heap.size<k∧k≠N) (w7.alloc ob) [e] (.slice (some ⟨w7.heap.size,0,none⟩) 1 1):=by rw [z];exact D
 have H:(w7.alloc ob).heap.size=w7.heap.size+1:=by simp
 subst hW;refine ⟨Yl ((Below.heap_alloc _ _ _ A).trans y.blk) _ _ _ _ _,?_,(hrd.alloc ob).keep (zr _ _ _ _ _ _ _ (by omega)) (zr _ _ _ _ _ _ _ (by omega)),ZN (y.kept.alloc _) (by omega) _ _ _ _ _,?_⟩
 ·exact zX.of_row (o.kept (w':=set5 (w7.alloc ob) N (.int .i64 k) (.string (zb s)) (.int .i64 0) (.slice (some ⟨w7.heap.size,0,none⟩) 1 1) (.int .i64 (e.line:Int))) (by simp) fun k hk _=>zr _ _ _ _ _ _ _ hk.2) k s 0 e.line
 ·rw [zr _ _ _ _ _ _ _ (by omega),Below.heap_alloc _ _ _ G];exact y.res
theorem Y4.one' {r g N:Nat} {w wr w7:World} {e:Ex} {σ σ7:RS} {a2:Int} {b2:ByteArray} {c2:Int} {p2:Option Addr} {q2 s2:Nat} {l2:Int} (wE:World)
  (k:Nat) (s:List UInt8) (h:Y4 r g N w e σ a2 b2 c2 p2 q2 s2 l2 wr) (hr:r<w.heap.size) (hg:g<w.heap.size) (hNw:w.heap.size<N) (hkE:zc r wr wE)
  (hk7:zc r (wE.alloc (.cells #[.int .i64 a2,.string b2,.int .i64 c2,.slice p2 q2 s2,.int .i64 l2] 45)) w7) (hrd:yS r g σ7 w7) (kv:Value) (hkv:kv=.int .i64 k) (W:World)
  (hW:W=set5 w7 N kv (.string (zb s)) (.int .i64 0) (.slice (some ⟨wE.heap.size,0,none⟩) 1 1) (.int .i64 l2)) :
  Y4 r g N w (.mk k s 0 [e] e.line) σ7 k (zb s) 0 (some ⟨wE.heap.size,0,none⟩) 1 1 (e.line:Int) W:=by
 obtain rfl:l2=(e.line:Int):=h.ex.line_eq;subst hkv;have D:=hk7.size;have J:=hkE.size;simp only [World.size_alloc] at D;have I:=(Array.getElem?_eq_some_iff.1 h.blk).1;have H:=(Array.getElem?_eq_some_iff.1 h.res).1;have y:zc r wr w7:=(hkE.alloc _).trans hk7;have G:=h.moved hr hNw y hrd;have A:=zX.kept h.ex hkE.size fun k hk' hlt=>hkE.block k hlt (by omega)
 have z:=zK.one 45 (c:=[.int .i64 a2,.string b2,.int .i64 c2,.slice p2 q2 s2,.int .i64 (e.line:Int)]) A rfl ⟨by omega,by omega⟩
 have o:=z.kept hk7.size fun k hk' hlt=>hk7.block k hlt (by omega)
 subst hW;refine ⟨Yl G.blk _ _ _ _ _,?_,hrd.keep (zr _ _ _ _ _ _ _ (by omega)) (zr _ _ _ _ _ _ _ (by omega)),ZN G.kept (by omega) _ _ _ _ _,?_⟩
 ·exact zX.of_row (o.kept (w':=set5 w7 N (.int .i64 k) (.string (zb s)) (.int .i64 0) (.slice (some ⟨wE.heap.size,0,none⟩) 1 1) (.int .i64 (e.line:Int))) (by simp) fun k hk _=>zr _ _ _ _ _ _ _ hk.2) k s 0 e.line
 ·rw [zr _ _ _ _ _ _ _ (by omega)];exact G.res
theorem yS.as {r g:Nat} {σ:RS} {w W:World} (h:yS r g σ w) (e:W.heap=w.heap):yS r g σ W:=h.keep (by rw [e]) (by rw [e])
theorem zc.as {r:Nat} {w W w':World} (h:zc r W w') (e1:W.heap=w.heap) (e2:W.os=w.os) (e3:W.tape=w.tape) (e4:W.output=w.output):zc r w w' :=
 ⟨h.os.trans e2,h.tape.trans e3,h.output.trans e4,by rw [←e1];exact h.size,fun k hk hr=>by rw [←e1];exact h.block k (by rw [e1];exact hk) hr⟩
end Go.Proofs.YtcphojjpapgblaaGreatDoor
