import Derived.Test.YtmbofhpmockmbaaGreatDoorSDMath
import Derived.Test.YtmbofhpmockmbaaGreatDoorMC15
import Derived.Test.YtmbofhpmockmbaaGreatDoorMC10
import Derived.Test.YtmbofhpmockmbaaGreatDoorMC19
namespace Go.Proofs.YtmbofhpmockmbaaGreatDoor
open Go.RowKit Go.Shelf
set_option maxHeartbeats 16000000
set_option maxRecDepth 100000
structure ZX (r g p cap:Nat) (TS:List Tk) (σ:RS) (w:World):Prop where
 rest:σ.2=TS.drop p
 lt:p<TS.length
 blk:w.heap[r]?=some (.cells #[.slice (some ⟨g,0,none⟩) TS.length cap,.int .i64 (p:Int),.bool σ.1] 138 (0,0))
 other:r≠g
 glt:g<w.heap.size
 hcap:TS.length≤cap
 hmax:cap≤maxLen
 few:TS.length≤1099511627776
 toks:∀j u,(zy TS)[j]?=some u→w.cell? ⟨g,j,none⟩=some u
 ends:zq σ.2
def zB (r g:Nat) (σ:RS) (w:World):Prop:=∃p cap TS,ZX r g p cap TS σ w
theorem ZX.keep {r g p cap:Nat} {TS:List Tk} {σ:RS} {w w':World} (h:ZX r g p cap TS σ w) (hr:w'.heap[r]?=w.heap[r]?) (hg:w'.heap[g]?=w.heap[g]?):ZX r g p cap TS σ w' where
 rest:=h.rest
 lt:=h.lt
 blk:=hr.trans h.blk
 other:=h.other
 glt:=by
  have e:=h.glt;rw [Array.getElem?_eq_getElem e] at hg;exact (Array.getElem?_eq_some_iff.1 hg).1
 hcap:=h.hcap
 hmax:=h.hmax
 few:=h.few
 toks:=fun j u hj=>by rw [World.cell?_of_block hg];exact h.toks j u hj
 ends:=h.ends
theorem zB.keep {r g:Nat} {σ:RS} {w w':World} (h:zB r g σ w) (hr:w'.heap[r]?=w.heap[r]?) (hg:w'.heap[g]?=w.heap[g]?):zB r g σ w':=by
 obtain ⟨p,e,o,h⟩:=h;exact ⟨p,e,o,h.keep hr hg⟩
theorem zB.lt {r g:Nat} {σ:RS} {w:World} (h:zB r g σ w):r<w.heap.size∧g<w.heap.size:=by
 obtain ⟨p,e,o,h⟩:=h;exact ⟨(Array.getElem?_eq_some_iff.1 h.blk).1,h.glt⟩
theorem zB.ends {r g:Nat} {σ:RS} {w:World} (h:zB r g σ w):zq σ.2:=by
 obtain ⟨p,e,o,h⟩:=h;exact h.ends
theorem zB.few {r g:Nat} {σ:RS} {w:World} (h:zB r g σ w):σ.2.length≤1099511627776:=by
 obtain ⟨p,e,o,h⟩:=h
 have:=h.few
 rw [h.rest,List.length_drop];omega
theorem zB.below {r g:Nat} {σ:RS} {w w':World} (h:zB r g σ w) (hb:Below w.heap.size w w'):zB r g σ w':=h.keep (hb.block _ h.lt.1) (hb.block _ h.lt.2)
theorem zB.alloc {r g:Nat} {σ:RS} {w:World} (h:zB r g σ w) (ob:Obj):zB r g σ (w.alloc ob):=h.keep (Below.heap_alloc _ _ _ h.lt.1) (Below.heap_alloc _ _ _ h.lt.2)
theorem ZX.step {r g p cap:Nat} {TS:List Tk} {σ:RS} {w:World} (h:ZX r g p cap TS σ w) (hk:(zu σ.2).k≠0):ZX r g (p+1) cap TS (σ.1,σ.2.tail) (w.setCell ⟨r,1,none⟩ (.int .i64 ((p:Int)+1))) where
 rest:=by show σ.2.tail=_;rw [h.rest,List.tail_drop]
 lt:=by
  have e:=ZT h.ends hk;have o:=List.length_pos_iff.2 e.ne;rw [h.rest,List.tail_drop,List.length_drop] at o;omega
 blk:=Zd _ h.blk
 other:=h.other
 glt:=by simpa using h.glt
 hcap:=h.hcap
 hmax:=h.hmax
 few:=h.few
 toks:=fun j u hj=>by
  have y:=h.other;rw [World.cell?_setCell_other _ _ _ _ (by simp)]
  exact h.toks j u hj
 ends:=ZT h.ends hk
theorem ZX.fail {r g p cap:Nat} {TS:List Tk} {σ:RS} {w:World} (h:ZX r g p cap TS σ w):ZX r g p cap TS (true,σ.2) (w.setCell ⟨r,2,none⟩ (.bool true)) where
 rest:=h.rest
 lt:=h.lt
 blk:=Zd _ h.blk
 other:=h.other
 glt:=by simpa using h.glt
 hcap:=h.hcap
 hmax:=h.hmax
 few:=h.few
 toks:=fun j u hj=>by
  have e:=h.other;rw [World.cell?_setCell_other _ _ _ _ (by simp)]
  exact h.toks j u hj
 ends:=h.ends
def ZC (r:Nat) (w:World):Nat:=match w.cell? ⟨r,0,none⟩,w.cell? ⟨r,1,none⟩ with | some (.slice _ n _),some (.int _ p)=>n-p.toNat | _,_=>0
theorem z7 {w:World} {N:Nat} {x0 x1 x2:Value} {ty:TypeId} (h:w.heap[N]?=some (.cells #[x0,x1,x2] ty (0,0))):w.cell? ⟨N,0,none⟩=some x0∧w.cell? ⟨N,1,none⟩=some x1∧w.cell? ⟨N,2,none⟩=some x2∧∀j,w.frozen? ⟨N,j,none⟩=false:=by
 refine ⟨?_,?_,?_,fun j=>?_⟩
 ·simp only [World.cell?,h];rfl
 ·simp only [World.cell?,h];rfl
 ·simp only [World.cell?,h];rfl
 ·simp only [World.frozen?,h];simp
theorem zB.left {r g:Nat} {σ:RS} {w:World} (h:zB r g σ w):ZC r w=σ.2.length:=by
 obtain ⟨p,y,z,h⟩:=h;obtain ⟨e,o,-,-⟩:=z7 h.blk
 unfold ZC
 rw [e,o,h.rest,List.length_drop]
 simp
theorem vt (TS:List Tk):∀p,(zy TS).drop (p*5)=zy (TS.drop p):=by
 induction TS with
 | nil=>intro p;simp [zy]
 | cons t ts ih =>
  intro p;cases p with
  | zero=>simp
  | succ p =>
   rw [List.drop_succ_cons,←ih p]
   unfold zy
   rw [List.flatMap_cons];rw [show (p+1)*5=5+p*5 by omega,←List.drop_drop]
   rfl
theorem ZX.tok {r g p cap:Nat} {TS:List Tk} {σ:RS} {w:World} (h:ZX r g p cap TS σ w) (t:Tk) (ht:t=zu σ.2):w.cell? ⟨g,p*5,none⟩=some (.int .i64 t.k)∧w.cell? ⟨g,p*5+1,none⟩=some (.string (za t.s))∧w.cell? ⟨g,p*5+2,none⟩=some (.int .i64 t.n)∧w.cell? ⟨g,p*5+3,none⟩=some (.int .i64 t.line)∧w.cell? ⟨g,p*5+4,none⟩=some (.int .i64 t.at0):=by
 have o:∀j u,[Value.int .i64 t.k,.string (za t.s),.int .i64 t.n,.int .i64 t.line,.int .i64 t.at0][j]?=some u→w.cell? ⟨g,p*5+j,none⟩=some u:=fun j u hj=>by
  refine h.toks _ _ ?_;rw [←List.getElem?_drop,vt,←h.rest];obtain ⟨t',ts,e⟩:=h.ends.cons;rw [e] at ht ⊢
  have:t=t':=ht
  subst this
  unfold zy
  rw [List.flatMap_cons,List.getElem?_append_left (by have:=(List.getElem?_eq_some_iff.1 hj).1;simpa using this)]
  exact hj
 exact ⟨o 0 _ rfl,o 1 _ rfl,o 2 _ rfl,o 3 _ rfl,o 4 _ rfl⟩
theorem x8 (r g:Nat) (σ:RS) (w:World) (h:zB r g σ w) :
  Calls Tryz.prog 92 #[.pointer (some ⟨r,0,none⟩)] w fun e w'=>e=.returned (YH (zu σ.2))∧Below w.heap.size w w':=by
 obtain ⟨p,K,W,h⟩:=h;obtain ⟨t,z⟩:∃t,t=zu σ.2:=⟨_,rfl⟩;obtain ⟨H,M,T,Q,N⟩:=h.tok t z;rw [←z];obtain ⟨D,I,Y,-⟩:=z7 h.blk;have y:=h.lt;have o:=h.few;have Z:=h.hmax;have U:=h.hcap;obtain ⟨n,A⟩:∃n,n=W.length:=⟨_,rfl⟩;rw [←A] at D y o U;have X:(p:Int)<(n:Int):=by omega
 have J:=zc H;have R:=zc M;have V:=zc T;have O:=zc Q;have E:=zc N;have G:=zc D;have L:=zc I;clear h z A
 go_enter Tryz.func92,Tryz.ntmps92
 go_wp2
 go_region
 go_wp2
 exact bodyPost_ret (v:=YH t) (by simp [results,Tryz.results92,go_sem]) rfl ⟨rfl,((Below.refl _ w).alloc (Nat.le_refl _) _).drew⟩
theorem zbj (r g:Nat) (σ:RS) (s:List UInt8) (w:World) (h:zB r g σ w) :
  Calls Tryz.prog 150 #[.pointer (some ⟨r,0,none⟩),.string (za s)] w fun e w'=>e=.returned (.bool (zU s σ))∧Below w.heap.size w w':=by
 have z:=x8 r g σ w h;obtain ⟨t,D⟩:∃t,t=zu σ.2:=⟨_,rfl⟩;obtain ⟨b,E⟩:∃b,b=σ.1:=⟨_,rfl⟩;have H:zU s σ=(!b&&zk t s):=by rw [D,E];rfl
 rw [H];rw [←D] at z
 go_enter Tryz.func150,Tryz.ntmps150
 go_wp2_with fail
 refine z.mono ?_;clear z;rintro e K ⟨rfl,o⟩;have y:Hid (∀ob,Below w.heap.size w (K.alloc ob)):=fun ob=>o.alloc o.size ob
 obtain ⟨p,L,R,I⟩:=h.below o;obtain ⟨-,-,A,-⟩:=z7 I.blk;rw [←E] at A;have Q:=zc A;clear h I o D E H A;simp only [YH];obtain ⟨k,G,n,line,at0⟩:=t;cases b
 ·by_cases h4:k=4
  ·subst h4
   go_wp2
   all_goals
    refine bodyPost_ret (v:=.bool (G==s)) (by simp [results,Tryz.results150,go_sem, *]) rfl ⟨by simp [zk],y.out _⟩
  ·have N:¬ (k:Int)=4:=by omega
   have J:(k==4)=false:=by simpa using h4
   by_cases h5:k=5
   ·subst h5
    go_wp2
    all_goals
     refine bodyPost_ret (v:=.bool (G==s)) (by simp [results,Tryz.results150,go_sem, *]) rfl ⟨by simp [zk],y.out _⟩
   ·have M:¬ (k:Int)=5:=by omega
    have O:(k==5)=false:=by simpa using h5
    go_wp2
    all_goals
     refine bodyPost_ret (v:=.bool false) (by simp [results,Tryz.results150,go_sem, *]) rfl ⟨by simp [zk,J,O],y.out _⟩
 ·go_wp2
  all_goals
   refine bodyPost_ret (v:=.bool false) (by simp [results,Tryz.results150,go_sem, *]) rfl ⟨by simp [zk],y.out _⟩
theorem xz {s:List UInt8} {σ:RS} (h:zU s σ=true):σ.1=false∧zk (zu σ.2) s=true∧(zu σ.2).k≠0:=by
 unfold zU at h
 rw [Bool.and_eq_true] at h;exact ⟨by simpa using h.1,h.2,zm h.2⟩
theorem ym (r g:Nat) (σ:RS) (s:List UInt8) (w:World) (h:zB r g σ w) :
  Calls Tryz.prog 134 #[.pointer (some ⟨r,0,none⟩),.string (za s)] w fun e w'=>e=.returned (.bool (zU s σ))∧zb r w w'∧zB r g (ZB s σ) w':=by
 have H:=zbj r g σ s w h
 go_enter Tryz.func134,Tryz.ntmps134
 go_wp2_with fail
 refine H.mono ?_;clear H;rintro e A ⟨rfl,y⟩;have I:Hid (zb r w A):=zb.of y;obtain ⟨p,z,E,o⟩:=h.below y;obtain ⟨R,O,Q,T⟩:=z7 o.blk;have L:p≤1099511627776:=by have:=o.lt;have:=o.few;omega
 have M:Hid (ZX r g p z E σ A):=o;cases hi:zU s σ
 ·have D:Hid (ZB s σ=σ):=show _=_ by unfold ZB;rw [if_neg (by simp [hi])]
  clear h o y;go_wp2
  refine bodyPost_ret (v:=.bool false) (by simp [results,Tryz.results134,go_sem]) rfl ⟨by rw [hi],I.out,?_⟩
  rw [D.out];exact ⟨p,z,E,M.out⟩
 ·obtain ⟨G,N,J⟩:=xz hi
  have D:Hid (ZB s σ=(σ.1,σ.2.tail)):=show _=_ by unfold ZB;rw [if_pos hi,G]
  have K:Hid (ZX r g (p+1) z E (σ.1,σ.2.tail) (A.setCell ⟨r,1,none⟩ (.int .i64 ((p:Int)+1)))):=o.step J;clear h o y G N J;go_wp2
  refine bodyPost_ret (v:=.bool true) (by simp [results,Tryz.results134,go_sem]) rfl ⟨by rw [hi],I.out.setCell _ _,?_⟩
  rw [D.out];exact ⟨_,_,_,K.out⟩
theorem Vu (r g:Nat) (σ:RS) (s:List UInt8) (w:World) (h:zB r g σ w) :
  Calls Tryz.prog 136 #[.pointer (some ⟨r,0,none⟩),.string (za s)] w fun e w'=>e=.returned (.tuple #[])∧zb r w w'∧zB r g (Za s σ) w':=by
 have y:=ym r g σ s w h;clear h;cases hi:zU s σ
 ·have E:Hid (Za s σ=(true,σ.2)∧ZB s σ=σ):=⟨by unfold Za;rw [if_neg (by simp [hi])],by unfold ZB;rw [if_neg (by simp [hi])]⟩
  rw [hi] at y
  go_enter Tryz.func136,Tryz.ntmps136
  go_wp2_with fail
  refine y.mono ?_;clear y;rintro e z ⟨rfl,A,D⟩;rw [E.out.2] at D;obtain ⟨p,G,J,o⟩:=D;obtain ⟨N,L,M,O⟩:=z7 o.blk;have I:Hid (ZX r g p G J (true,σ.2) (z.setCell ⟨r,2,none⟩ (.bool true))):=o.fail;have H:Hid (zb r w z):=A;clear o A;go_wp2
  refine bodyPost_end (v:=.tuple #[]) (by simp [results,Tryz.results136]) rfl ⟨rfl,H.out.setCell _ _,?_⟩
  rw [E.out.1];exact ⟨_,_,_,I.out⟩
 ·have E:Hid (Za s σ=ZB s σ):=show _=_ by unfold Za ZB;rw [if_pos hi,if_pos hi]
  rw [hi] at y
  go_enter Tryz.func136,Tryz.ntmps136
  go_wp2_with fail
  refine y.mono ?_;clear y;rintro e z ⟨rfl,A,D⟩;have H:Hid (zb r w z):=A;have K:Hid (zB r g (Za s σ) z):=show zB _ _ _ _ by rw [E.out];exact D
  clear A D;go_wp2
  exact bodyPost_end (v:=.tuple #[]) (by simp [results,Tryz.results136]) rfl ⟨rfl,H.out,K.out⟩
theorem Qp (r g:Nat) (σ:RS) (w:World) (h:zB r g σ w) :
  Calls Tryz.prog 137 #[.pointer (some ⟨r,0,none⟩)] w fun e w'=>e=.returned (.string (za (nameF σ).1))∧zb r w w'∧zB r g (nameF σ).2 w':=by
 have K:=x8 r g σ w h;obtain ⟨t,L⟩:∃t,t=zu σ.2:=⟨_,rfl⟩;obtain ⟨b,N⟩:∃b,b=σ.1:=⟨_,rfl⟩;rw [←L] at K
 go_enter Tryz.func137,Tryz.ntmps137
 go_wp2_with fail
 refine K.mono ?_;clear K;rintro e D ⟨rfl,z⟩;simp only [YH];obtain ⟨p,G,Q,o⟩:=h.below z;have J:∀ob,ZX r g p G Q σ (D.alloc ob):=fun ob=>o.keep (Below.heap_alloc _ _ _ (Array.getElem?_eq_some_iff.1 o.blk).1) (Below.heap_alloc _ _ _ o.glt)
 have W:=fun ob=>(z7 (J ob).blk).2.1
 have V:=fun ob=>(z7 (J ob).blk).2.2.1
 have X:=fun ob j=>(z7 (J ob).blk).2.2.2 j
 have T:p≤1099511627776:=by have:=o.lt;have:=o.few;omega
 simp only [←N] at V;have E:Hid (ZX r g p G Q σ D∧Below w.heap.size w D):=⟨o,z⟩;have R:r<D.heap.size:=(Array.getElem?_eq_some_iff.1 o.blk).1;have y:Hid (t=zu σ.2∧b=σ.1):=⟨L,N⟩;clear h z o J L N;obtain ⟨k,O,n,line,at0⟩:=t
 by_cases hc:b=false∧k=1
 ·obtain ⟨rfl,rfl⟩:=hc
  have A:Hid (nameF σ=(O,(σ.1,σ.2.tail))):=show _=_ by unfold nameF;rw [if_pos ⟨y.out.2.symm,by rw [←y.out.1]⟩,←y.out.1,←y.out.2]
  have I:Hid (∀ob,zB r g (σ.1,σ.2.tail) ((D.setCell ⟨r,1,none⟩ (.int .i64 ((p:Int)+1))).alloc ob)):=fun ob=>zB.alloc ⟨_,_,_,E.out.1.step (by rw [←y.out.1];exact Nat.one_ne_zero)⟩ ob
  go_wp2
  refine bodyPost_ret (v:=.string (za O)) (by simp [results,Tryz.results137,go_sem]) rfl ⟨by rw [A.out],((zb.of E.out.2).setCell _ _).alloc _,?_⟩
  rw [A.out];exact I.out _
 ·have A:Hid (nameF σ=([],(true,σ.2))):=show _=_ by unfold nameF;rw [if_neg (by rw [←y.out.1,←y.out.2];exact hc)]
  have I:Hid (∀ob,zB r g (true,σ.2) ((D.setCell ⟨r,2,none⟩ (.bool true)).alloc ob)):=fun ob=>zB.alloc ⟨_,_,_,E.out.1.fail⟩ ob
  cases b
  ·have H:¬ (k:Int)=1:=fun he=>hc ⟨rfl,by omega⟩
   have M:((k:Int)==1)=false:=by rw [beq_eq_false_iff_ne];exact H
   have U:((k:Int) != 1)=true:=by simp [bne,M]
   clear hc;go_wp2
   refine bodyPost_ret (v:=.string ⟨#[]⟩) (by simp [results,Tryz.results137,go_sem]) rfl ⟨by rw [A.out],((zb.of E.out.2).setCell _ _).alloc _,?_⟩
   rw [A.out];exact I.out _
  ·clear hc
   go_wp2
   refine bodyPost_ret (v:=.string ⟨#[]⟩) (by simp [results,Tryz.results137,go_sem]) rfl ⟨by rw [A.out],((zb.of E.out.2).setCell _ _).alloc _,?_⟩
   rw [A.out];exact I.out _
def zL (r g:Nat) (w:World) (q:Ex × RS) (e:Ending) (w':World):Prop:=zb r w w'∧∃v,e=.returned v∧zM w.heap.size w' q.1 v∧zB r g q.2 w'
def xn (r g:Nat) (w:World) (q:List Ex × RS) (e:Ending) (w':World):Prop:=zb r w w'∧∃v,e=.returned v∧Zr w.heap.size w' q.1 v∧zB r g q.2 w'
theorem zL.of_set5 {r g N B:Nat} {w w5:World} {σ:RS} {l:List Ex} {v:Value} (k:Nat) (s:List UInt8) (n:Int) (line:Nat) (hK:zb r w w5) (hN:w.heap.size≤N) (hr:r<w.heap.size) (hg:g<w.heap.size) (hrow:Zr B w5 l v) (hB:N<B) (hrd:zB r g σ w5) :
  zL r g w (.mk k s n l line,σ) (.returned (.agg #[.int .i64 k,.string (za s),.int .i64 n,v,.int .i64 line])) (set5 w5 N (.int .i64 k) (.string (za s)) (.int .i64 n) v (.int .i64 line)):=by
 refine ⟨Zo hK hN _ _ _ _ _,_,rfl,?_,hrd.keep (zh _ _ _ _ _ _ _ (by omega)) (zh _ _ _ _ _ _ _ (by omega))⟩
 have h:=hrow.kept (w':=set5 w5 N (.int .i64 k) (.string (za s)) (.int .i64 n) v (.int .i64 line)) (by simp) fun k hB _=>zh _ _ _ _ _ _ _ (by omega)
 exact zM.of_row (h.mono (by omega)) k s n line
theorem zL.of_set5' {r g N B:Nat} {w w5:World} {σ:RS} {x:Ex} {a b c d e:Value} (hK:zb r w w5) (hN:w.heap.size≤N) (hr:r<w.heap.size) (hg:g<w.heap.size) (hx:zM B w5 x (.agg #[a,b,c,d,e])) (hB:N<B) (hrd:zB r g σ w5) :
  zL r g w (x,σ) (.returned (.agg #[a,b,c,d,e])) (set5 w5 N a b c d e):=by
 refine ⟨Zo hK hN _ _ _ _ _,_,rfl,?_,hrd.keep (zh _ _ _ _ _ _ _ (by omega)) (zh _ _ _ _ _ _ _ (by omega))⟩
 exact zM.mono (zM.kept hx (w':=set5 w5 N a b c d e) (by simp) fun k hB _=>zh _ _ _ _ _ _ _ (by omega)) (by omega)
structure ZJ (r g N:Nat) (w:World) (e:Ex) (σ:RS) (a:Int) (b:ByteArray) (c:Int) (d0:Option Addr) (d1 d2:Nat) (l:Int) (wr:World):Prop where
 blk:wr.heap[N]?=some (.cells #[.int .i64 a,.string b,.int .i64 c,.slice d0 d1 d2,.int .i64 l] 90 (0,0))
 ex:zH (fun k=>w.heap.size<k∧k≠N) wr e (.agg #[.int .i64 a,.string b,.int .i64 c,.slice d0 d1 d2,.int .i64 l])
 rd:zB r g σ wr
 kept:zb r w wr
 res:wr.heap[w.heap.size]?=some zJ
def YQ (r g N F:Nat) (w:World) (res:Ex × RS) (p:Nat→Ex→RS→Option (Ex × RS)) (wr:World):Prop :=
 ∃e σ f a b c d0 d1 d2 l,f≤F∧p f e σ=some res∧ZJ r g N w e σ a b c d0 d1 d2 l wr
theorem ZJ.leave {r g N:Nat} {w wr W:World} {e:Ex} {σ σ':RS} {a:Int} {b:ByteArray} {c:Int} {d0:Option Addr} {d1 d2:Nat} {l:Int} (h:ZJ r g N w e σ a b c d0 d1 d2 l wr) (hr:r<w.heap.size) (hg:g<w.heap.size) (hNw:w.heap.size<N) (hK:zb r wr W) (hrd:zB r g σ' W) :
  W.heap[N]?=some (.cells #[.int .i64 a,.string b,.int .i64 c,.slice d0 d1 d2,.int .i64 l] 90 (0,0))∧W.heap[w.heap.size]?=some zJ ∧
  zL r g w (e,σ') (.returned (.agg #[.int .i64 a,.string b,.int .i64 c,.slice d0 d1 d2,.int .i64 l])) (set5 W w.heap.size (.int .i64 a) (.string b) (.int .i64 c) (.slice d0 d1 d2) (.int .i64 l)):=by
 refine ⟨(hK.block _ (Array.getElem?_eq_some_iff.1 h.blk).1 (by omega)).trans h.blk,(hK.block _ (Array.getElem?_eq_some_iff.1 h.res).1 (by omega)).trans h.res,?_⟩
 refine zL.of_set5' (B:=w.heap.size+1) (h.kept.trans hK) (Nat.le_refl _) hr hg ?_ (Nat.lt_succ_self _) hrd;exact zH.wide (zH.kept h.ex hK.size fun k hk' hlt=>hK.block k hlt (by omega)) fun k hk'=>hk'.1
theorem ZJ.start {r g:Nat} {w w0 w1:World} {x:Ex} {σ:RS} {a:Int} {b:ByteArray} {c:Int} {d0:Option Addr} {d1 d2:Nat} {l:Int} (hsz:w.heap.size<w0.heap.size) (hz:w0.heap[w.heap.size]?=some zJ) (hk0:zb r w w0) (hr:r<w.heap.size) (hk:zb r w0 w1)
  (hx:zM w0.heap.size w1 x (.agg #[.int .i64 a,.string b,.int .i64 c,.slice d0 d1 d2,.int .i64 l])) (hrd:zB r g σ w1) :
  ZJ r g w1.heap.size w x σ a b c d0 d1 d2 l (w1.alloc (.cells #[.int .i64 a,.string b,.int .i64 c,.slice d0 d1 d2,.int .i64 l] 90)) where
 blk:=World.alloc_heap_new _ _
 ex:=zH.wide (zH.kept (zH.low hx) (by simp) fun k hk _=>Below.heap_alloc _ _ _ hk.2) fun k hk=>⟨by omega,by omega⟩
 rd:=hrd.alloc _
 kept:=(hk0.trans hk).alloc _
 res:=by
  have:=hk.size
  rw [Below.heap_alloc _ _ _ (by omega),hk.block _ (by omega) (by omega)];exact hz
theorem ZJ.moved {r g N:Nat} {w wr W:World} {e:Ex} {σ σ':RS} {a:Int} {b:ByteArray} {c:Int} {d0:Option Addr} {d1 d2:Nat} {l:Int} (h:ZJ r g N w e σ a b c d0 d1 d2 l wr) (hr:r<w.heap.size) (hNw:w.heap.size<N) (hK:zb r wr W) (hrd:zB r g σ' W):ZJ r g N w e σ' a b c d0 d1 d2 l W where
 blk:=(hK.block _ (Array.getElem?_eq_some_iff.1 h.blk).1 (by omega)).trans h.blk
 ex:=zH.kept h.ex hK.size fun k hk' hlt=>hK.block k hlt (by omega)
 rd:=hrd
 kept:=h.kept.trans hK
 res:=(hK.block _ (Array.getElem?_eq_some_iff.1 h.res).1 (by omega)).trans h.res
theorem ZJ.two {r g N:Nat} {w wr wE w7:World} {e x:Ex} {σ σ7:RS} {a2:Int} {b2:ByteArray} {c2:Int} {p2:Option Addr} {q2 s2:Nat} {l2:Int} {a3:Int} {b3:ByteArray} {c3:Int} {u0:Option Addr} {u1 u2:Nat} {l3:Int}
  (k:Nat) (s:List UInt8) (h:ZJ r g N w e σ a2 b2 c2 p2 q2 s2 l2 wr) (hr:r<w.heap.size) (hg:g<w.heap.size) (hNw:w.heap.size<N) (hkE:zb r wr wE) (hk7:zb r wE w7)
  (hx7:zM wE.heap.size w7 x (.agg #[.int .i64 a3,.string b3,.int .i64 c3,.slice u0 u1 u2,.int .i64 l3])) (hrd:zB r g σ7 w7) (kv:Value) (hkv:kv=.int .i64 k) (W:World)
  (hW:W=(set5 w7 N kv (.string (za s)) (.int .i64 0) (.slice (some ⟨w7.heap.size,0,none⟩) 2 2) (.int .i64 l2)).alloc (.cells #[.int .i64 a2,.string b2,.int .i64 c2,.slice p2 q2 s2,.int .i64 l2,.int .i64 a3,.string b3,.int .i64 c3,.slice u0 u1 u2,.int .i64 l3] 90)) :
  ZJ r g N w (.mk k s 0 [e,x] e.line) σ7 k (za s) 0 (some ⟨w7.heap.size,0,none⟩) 2 2 (e.line:Int) W:=by
 obtain rfl:l2=(e.line:Int):=h.ex.line_eq;have z:=h.moved hr hNw (hkE.trans hk7) hrd;have D:=(Array.getElem?_eq_some_iff.1 z.blk).1;rw [←Yy _ _ _ _ _ _ D] at hW;subst hkv;have G:=hk7.size;have J:=hkE.size;have H:=(Array.getElem?_eq_some_iff.1 h.blk).1;have E:=(Array.getElem?_eq_some_iff.1 z.res).1;have o:=zI.two 90 (c:=[.int .i64 a2,.string b2,.int .i64 c2,.slice p2 q2 s2,.int .i64 (e.line:Int)]) (d:=[.int .i64 a3,.string b3,.int .i64 c3,.slice u0 u1 u2,.int .i64 l3]) z.ex (zH.wide hx7 fun k hk'=>⟨by omega,by omega⟩) rfl rfl ⟨by omega,by omega⟩
 simp only [List.cons_append,List.nil_append] at o;obtain ⟨ob,A⟩:∃ob:Obj,ob=.cells #[.int .i64 a2,.string b2,.int .i64 c2,.slice p2 q2 s2,.int .i64 (e.line:Int),.int .i64 a3,.string b3,.int .i64 c3,.slice u0 u1 u2,.int .i64 l3] 90:=⟨_,rfl⟩;rw [←A] at hW;have y:zI (fun k=>w.heap.size<k∧k≠N) (w7.alloc ob) [e,x] (.slice (some ⟨w7.heap.size,0,none⟩) 2 2):=by rw [A];exact o
 have I:(w7.alloc ob).heap.size=w7.heap.size+1:=by simp
 subst hW;refine ⟨Z5 ((Below.heap_alloc _ _ _ D).trans z.blk) _ _ _ _ _,?_,(hrd.alloc ob).keep (zh _ _ _ _ _ _ _ (by omega)) (zh _ _ _ _ _ _ _ (by omega)),Zo (z.kept.alloc _) (by omega) _ _ _ _ _,?_⟩
 ·exact zH.of_row (y.kept (w':=set5 (w7.alloc ob) N (.int .i64 k) (.string (za s)) (.int .i64 0) (.slice (some ⟨w7.heap.size,0,none⟩) 2 2) (.int .i64 (e.line:Int))) (by simp) fun k hk _=>zh _ _ _ _ _ _ _ hk.2) k s 0 e.line
 ·rw [zh _ _ _ _ _ _ _ (by omega),Below.heap_alloc _ _ _ E];exact z.res
theorem ZJ.one {r g N:Nat} {w wr w7:World} {e:Ex} {σ σ7:RS} {a2:Int} {b2:ByteArray} {c2:Int} {p2:Option Addr} {q2 s2:Nat} {l2:Int}
  (k:Nat) (s:List UInt8) (h:ZJ r g N w e σ a2 b2 c2 p2 q2 s2 l2 wr) (hr:r<w.heap.size) (hg:g<w.heap.size) (hNw:w.heap.size<N) (hk7:zb r wr w7) (hrd:zB r g σ7 w7) (kv:Value) (hkv:kv=.int .i64 k) (W:World)
  (hW:W=(set5 w7 N kv (.string (za s)) (.int .i64 0) (.slice (some ⟨w7.heap.size,0,none⟩) 1 1) (.int .i64 l2)).alloc (.cells #[.int .i64 a2,.string b2,.int .i64 c2,.slice p2 q2 s2,.int .i64 l2] 90)) :
  ZJ r g N w (.mk k s 0 [e] e.line) σ7 k (za s) 0 (some ⟨w7.heap.size,0,none⟩) 1 1 (e.line:Int) W:=by
 obtain rfl:l2=(e.line:Int):=h.ex.line_eq;have y:=h.moved hr hNw hk7 hrd;have D:=(Array.getElem?_eq_some_iff.1 y.blk).1;rw [←Yy _ _ _ _ _ _ D] at hW;subst hkv;have H:=hk7.size;have G:=(Array.getElem?_eq_some_iff.1 h.blk).1;have E:=(Array.getElem?_eq_some_iff.1 y.res).1;have A:=zI.one 90 (c:=[.int .i64 a2,.string b2,.int .i64 c2,.slice p2 q2 s2,.int .i64 (e.line:Int)]) y.ex rfl ⟨by omega,by omega⟩
 obtain ⟨ob,z⟩:∃ob:Obj,ob=.cells #[.int .i64 a2,.string b2,.int .i64 c2,.slice p2 q2 s2,.int .i64 (e.line:Int)] 90:=⟨_,rfl⟩;rw [←z] at hW;have o:zI (fun k=>w.heap.size<k∧k≠N) (w7.alloc ob) [e] (.slice (some ⟨w7.heap.size,0,none⟩) 1 1):=by rw [z];exact A
 have I:(w7.alloc ob).heap.size=w7.heap.size+1:=by simp
 subst hW;refine ⟨Z5 ((Below.heap_alloc _ _ _ D).trans y.blk) _ _ _ _ _,?_,(hrd.alloc ob).keep (zh _ _ _ _ _ _ _ (by omega)) (zh _ _ _ _ _ _ _ (by omega)),Zo (y.kept.alloc _) (by omega) _ _ _ _ _,?_⟩
 ·exact zH.of_row (o.kept (w':=set5 (w7.alloc ob) N (.int .i64 k) (.string (za s)) (.int .i64 0) (.slice (some ⟨w7.heap.size,0,none⟩) 1 1) (.int .i64 (e.line:Int))) (by simp) fun k hk _=>zh _ _ _ _ _ _ _ hk.2) k s 0 e.line
 ·rw [zh _ _ _ _ _ _ _ (by omega),Below.heap_alloc _ _ _ E];exact y.res
theorem ZJ.one' {r g N:Nat} {w wr w7:World} {e:Ex} {σ σ7:RS} {a2:Int} {b2:ByteArray} {c2:Int} {p2:Option Addr} {q2 s2:Nat} {l2:Int} (wE:World)
  (k:Nat) (s:List UInt8) (h:ZJ r g N w e σ a2 b2 c2 p2 q2 s2 l2 wr) (hr:r<w.heap.size) (hg:g<w.heap.size) (hNw:w.heap.size<N) (hkE:zb r wr wE)
  (hk7:zb r (wE.alloc (.cells #[.int .i64 a2,.string b2,.int .i64 c2,.slice p2 q2 s2,.int .i64 l2] 90)) w7) (hrd:zB r g σ7 w7) (kv:Value) (hkv:kv=.int .i64 k) (W:World)
  (hW:W=set5 w7 N kv (.string (za s)) (.int .i64 0) (.slice (some ⟨wE.heap.size,0,none⟩) 1 1) (.int .i64 l2)) :
  ZJ r g N w (.mk k s 0 [e] e.line) σ7 k (za s) 0 (some ⟨wE.heap.size,0,none⟩) 1 1 (e.line:Int) W:=by
 obtain rfl:l2=(e.line:Int):=h.ex.line_eq;subst hkv;have E:=hk7.size;have I:=hkE.size;simp only [World.size_alloc] at E;have G:=(Array.getElem?_eq_some_iff.1 h.blk).1;have H:=(Array.getElem?_eq_some_iff.1 h.res).1;have z:zb r wr w7:=(hkE.alloc _).trans hk7;have A:=h.moved hr hNw z hrd;have D:=zH.kept h.ex hkE.size fun k hk' hlt=>hkE.block k hlt (by omega)
 have y:=zI.one 90 (c:=[.int .i64 a2,.string b2,.int .i64 c2,.slice p2 q2 s2,.int .i64 (e.line:Int)]) D rfl ⟨by omega,by omega⟩
 have o:=y.kept hk7.size fun k hk' hlt=>hk7.block k hlt (by omega)
 subst hW;refine ⟨Z5 A.blk _ _ _ _ _,?_,hrd.keep (zh _ _ _ _ _ _ _ (by omega)) (zh _ _ _ _ _ _ _ (by omega)),Zo A.kept (by omega) _ _ _ _ _,?_⟩
 ·exact zH.of_row (o.kept (w':=set5 w7 N (.int .i64 k) (.string (za s)) (.int .i64 0) (.slice (some ⟨wE.heap.size,0,none⟩) 1 1) (.int .i64 (e.line:Int))) (by simp) fun k hk _=>zh _ _ _ _ _ _ _ hk.2) k s 0 e.line
 ·rw [zh _ _ _ _ _ _ _ (by omega)];exact A.res
end Go.Proofs.YtmbofhpmockmbaaGreatDoor
