import Derived.Test.YtmbofhpmockmbaaGreatDoorSDMath
import Derived.Test.YtmbofhpmockmbaaGreatDoorMC14
import Derived.Test.YtmbofhpmockmbaaGreatDoorMC10
import Derived.Test.YtmbofhpmockmbaaGreatDoorMC18
namespace Go.Proofs.YtmbofhpmockmbaaGreatDoor
open Go.RowKit Go.Shelf
set_option maxHeartbeats 16000000
set_option maxRecDepth 100000
structure Z0 (r g p cap:Nat) (TS:List Tk) (σ:RS) (w:World):Prop where
 rest:σ.2=TS.drop p
 lt:p<TS.length
 blk:w.heap[r]?=some (.cells #[.slice (some ⟨g,0,none⟩) TS.length cap,.int .i64 (p:Int),.bool σ.1] 138 (0,0))
 other:r≠g
 glt:g<w.heap.size
 hcap:TS.length≤cap
 hmax:cap≤maxLen
 few:TS.length≤1099511627776
 toks:∀j u,(zA TS)[j]?=some u→w.cell? ⟨g,j,none⟩=some u
 ends:zt σ.2
def zD (r g:Nat) (σ:RS) (w:World):Prop:=∃p cap TS,Z0 r g p cap TS σ w
theorem Z0.keep {r g p cap:Nat} {TS:List Tk} {σ:RS} {w w':World} (h:Z0 r g p cap TS σ w) (hr:w'.heap[r]?=w.heap[r]?) (hg:w'.heap[g]?=w.heap[g]?):Z0 r g p cap TS σ w' where
 rest:=h.rest
 lt:=h.lt
 blk:=hr.trans h.blk
 other:=h.other
 glt:=by
  have e:=h.glt;rw [Array.getElem?_eq_getElem e] at hg;exact (Array.getElem?_eq_some_iff.1 hg).1
 hcap:=h.hcap
 hmax:=h.hmax
 few:=h.few
 toks:=fun j u hj=>by rw [World.cell?_of_block hg];exact h.toks j u hj
 ends:=h.ends
theorem zD.keep {r g:Nat} {σ:RS} {w w':World} (h:zD r g σ w) (hr:w'.heap[r]?=w.heap[r]?) (hg:w'.heap[g]?=w.heap[g]?):zD r g σ w':=by
 obtain ⟨p,e,o,h⟩:=h;exact ⟨p,e,o,h.keep hr hg⟩
theorem zD.lt {r g:Nat} {σ:RS} {w:World} (h:zD r g σ w):r<w.heap.size∧g<w.heap.size:=by
 obtain ⟨p,e,o,h⟩:=h;exact ⟨(Array.getElem?_eq_some_iff.1 h.blk).1,h.glt⟩
theorem zD.ends {r g:Nat} {σ:RS} {w:World} (h:zD r g σ w):zt σ.2:=by
 obtain ⟨p,e,o,h⟩:=h;exact h.ends
theorem zD.few {r g:Nat} {σ:RS} {w:World} (h:zD r g σ w):σ.2.length≤1099511627776:=by
 obtain ⟨p,e,o,h⟩:=h
 have:=h.few
 rw [h.rest,List.length_drop];omega
theorem zD.below {r g:Nat} {σ:RS} {w w':World} (h:zD r g σ w) (hb:Below w.heap.size w w'):zD r g σ w':=h.keep (hb.block _ h.lt.1) (hb.block _ h.lt.2)
theorem zD.alloc {r g:Nat} {σ:RS} {w:World} (h:zD r g σ w) (ob:Obj):zD r g σ (w.alloc ob):=h.keep (Below.heap_alloc _ _ _ h.lt.1) (Below.heap_alloc _ _ _ h.lt.2)
theorem Z0.step {r g p cap:Nat} {TS:List Tk} {σ:RS} {w:World} (h:Z0 r g p cap TS σ w) (hk:(zx σ.2).k≠0):Z0 r g (p+1) cap TS (σ.1,σ.2.tail) (w.setCell ⟨r,1,none⟩ (.int .i64 ((p:Int)+1))) where
 rest:=by show σ.2.tail=_;rw [h.rest,List.tail_drop]
 lt:=by
  have o:=ZX h.ends hk;have e:=List.length_pos_iff.2 o.ne;rw [h.rest,List.tail_drop,List.length_drop] at e;omega
 blk:=Zg _ h.blk
 other:=h.other
 glt:=by simpa using h.glt
 hcap:=h.hcap
 hmax:=h.hmax
 few:=h.few
 toks:=fun j u hj=>by
  have y:=h.other;rw [World.cell?_setCell_other _ _ _ _ (by simp)]
  exact h.toks j u hj
 ends:=ZX h.ends hk
theorem Z0.fail {r g p cap:Nat} {TS:List Tk} {σ:RS} {w:World} (h:Z0 r g p cap TS σ w):Z0 r g p cap TS (true,σ.2) (w.setCell ⟨r,2,none⟩ (.bool true)) where
 rest:=h.rest
 lt:=h.lt
 blk:=Zg _ h.blk
 other:=h.other
 glt:=by simpa using h.glt
 hcap:=h.hcap
 hmax:=h.hmax
 few:=h.few
 toks:=fun j u hj=>by
  have e:=h.other;rw [World.cell?_setCell_other _ _ _ _ (by simp)]
  exact h.toks j u hj
 ends:=h.ends
def ZH (r:Nat) (w:World):Nat:=match w.cell? ⟨r,0,none⟩,w.cell? ⟨r,1,none⟩ with | some (.slice _ n _),some (.int _ p)=>n-p.toNat | _,_=>0
theorem Zb {w:World} {N:Nat} {x0 x1 x2:Value} {ty:TypeId} (h:w.heap[N]?=some (.cells #[x0,x1,x2] ty (0,0))):w.cell? ⟨N,0,none⟩=some x0∧w.cell? ⟨N,1,none⟩=some x1∧w.cell? ⟨N,2,none⟩=some x2∧∀j,w.frozen? ⟨N,j,none⟩=false:=by
 refine ⟨?_,?_,?_,fun j=>?_⟩
 ·simp only [World.cell?,h];rfl
 ·simp only [World.cell?,h];rfl
 ·simp only [World.cell?,h];rfl
 ·simp only [World.frozen?,h];simp
theorem zD.left {r g:Nat} {σ:RS} {w:World} (h:zD r g σ w):ZH r w=σ.2.length:=by
 obtain ⟨p,e,z,h⟩:=h;obtain ⟨y,o,-,-⟩:=Zb h.blk
 unfold ZH
 rw [y,o,h.rest,List.length_drop]
 simp
theorem vJ (TS:List Tk):∀p,(zA TS).drop (p*5)=zA (TS.drop p):=by
 induction TS with
 | nil=>intro p;simp [zA]
 | cons t ts ih =>
  intro p;cases p with
  | zero=>simp
  | succ p =>
   rw [List.drop_succ_cons,←ih p]
   unfold zA
   rw [List.flatMap_cons];rw [show (p+1)*5=5+p*5 by omega,←List.drop_drop]
   rfl
theorem Z0.tok {r g p cap:Nat} {TS:List Tk} {σ:RS} {w:World} (h:Z0 r g p cap TS σ w) (t:Tk) (ht:t=zx σ.2):w.cell? ⟨g,p*5,none⟩=some (.int .i64 t.k)∧w.cell? ⟨g,p*5+1,none⟩=some (.string (za t.s))∧w.cell? ⟨g,p*5+2,none⟩=some (.int .i64 t.n)∧w.cell? ⟨g,p*5+3,none⟩=some (.int .i64 t.line)∧w.cell? ⟨g,p*5+4,none⟩=some (.int .i64 t.at0):=by
 have o:∀j u,[Value.int .i64 t.k,.string (za t.s),.int .i64 t.n,.int .i64 t.line,.int .i64 t.at0][j]?=some u→w.cell? ⟨g,p*5+j,none⟩=some u:=fun j u hj=>by
  refine h.toks _ _ ?_;rw [←List.getElem?_drop,vJ,←h.rest];obtain ⟨t',ts,e⟩:=h.ends.cons;rw [e] at ht ⊢
  have:t=t':=ht
  subst this
  unfold zA
  rw [List.flatMap_cons,List.getElem?_append_left (by have:=(List.getElem?_eq_some_iff.1 hj).1;simpa using this)]
  exact hj
 exact ⟨o 0 _ rfl,o 1 _ rfl,o 2 _ rfl,o 3 _ rfl,o 4 _ rfl⟩
theorem Xi (r g:Nat) (σ:RS) (w:World) (h:zD r g σ w) :
  Calls Tryz.prog 92 #[.pointer (some ⟨r,0,none⟩)] w fun e w'=>e=.returned (YQ (zx σ.2))∧Below w.heap.size w w':=by
 obtain ⟨p,M,R,h⟩:=h;obtain ⟨t,y⟩:∃t,t=zx σ.2:=⟨_,rfl⟩;obtain ⟨T,N,E,V,L⟩:=h.tok t y;rw [←y];obtain ⟨D,X,Y,-⟩:=Zb h.blk;have z:=h.lt;have o:=h.few;have Z:=h.hmax;have H:=h.hcap;obtain ⟨n,A⟩:∃n,n=R.length:=⟨_,rfl⟩;rw [←A] at D z o H;have O:(p:Int)<(n:Int):=by omega
 have U:=zd T;have G:=zd N;have I:=zd E;have J:=zd V;have K:=zd L;have Q:=zd D;have W:=zd X;clear h y A
 go_enter Tryz.func92,Tryz.ntmps92
 go_wp2
 go_region
 go_wp2
 exact bodyPost_ret (v:=YQ t) (by simp [results,Tryz.results92,go_sem]) rfl ⟨rfl,((Below.refl _ w).alloc (Nat.le_refl _) _).drew⟩
theorem zbG (r g:Nat) (σ:RS) (s:List UInt8) (w:World) (h:zD r g σ w) :
  Calls Tryz.prog 150 #[.pointer (some ⟨r,0,none⟩),.string (za s)] w fun e w'=>e=.returned (.bool (zW s σ))∧Below w.heap.size w w':=by
 have E:=Xi r g σ w h;obtain ⟨t,z⟩:∃t,t=zx σ.2:=⟨_,rfl⟩;obtain ⟨b,A⟩:∃b,b=σ.1:=⟨_,rfl⟩;have G:zW s σ=(!b&&zm t s):=by rw [z,A];rfl
 rw [G];rw [←z] at E
 go_enter Tryz.func150,Tryz.ntmps150
 go_wp2_with fail
 refine E.mono ?_;clear E;rintro e O ⟨rfl,o⟩;have y:Hid (∀ob,Below w.heap.size w (O.alloc ob)):=fun ob=>o.alloc o.size ob
 obtain ⟨p,L,R,I⟩:=h.below o;obtain ⟨-,-,D,-⟩:=Zb I.blk;rw [←A] at D;have Q:=zd D;clear h I o z A G D;simp only [YQ];obtain ⟨k,H,n,line,at0⟩:=t;cases b
 ·by_cases h4:k=4
  ·subst h4
   go_wp2
   all_goals
    refine bodyPost_ret (v:=.bool (H==s)) (by simp [results,Tryz.results150,go_sem, *]) rfl ⟨by simp [zm],y.out _⟩
  ·have M:¬ (k:Int)=4:=by omega
   have N:(k==4)=false:=by simpa using h4
   by_cases h5:k=5
   ·subst h5
    go_wp2
    all_goals
     refine bodyPost_ret (v:=.bool (H==s)) (by simp [results,Tryz.results150,go_sem, *]) rfl ⟨by simp [zm],y.out _⟩
   ·have K:¬ (k:Int)=5:=by omega
    have J:(k==5)=false:=by simpa using h5
    go_wp2
    all_goals
     refine bodyPost_ret (v:=.bool false) (by simp [results,Tryz.results150,go_sem, *]) rfl ⟨by simp [zm,N,J],y.out _⟩
 ·go_wp2
  all_goals
   refine bodyPost_ret (v:=.bool false) (by simp [results,Tryz.results150,go_sem, *]) rfl ⟨by simp [zm],y.out _⟩
theorem xK {s:List UInt8} {σ:RS} (h:zW s σ=true):σ.1=false∧zm (zx σ.2) s=true∧(zx σ.2).k≠0:=by
 unfold zW at h
 rw [Bool.and_eq_true] at h;exact ⟨by simpa using h.1,h.2,zo h.2⟩
theorem yp (r g:Nat) (σ:RS) (s:List UInt8) (w:World) (h:zD r g σ w) :
  Calls Tryz.prog 134 #[.pointer (some ⟨r,0,none⟩),.string (za s)] w fun e w'=>e=.returned (.bool (zW s σ))∧zc r w w'∧zD r g (ZG s σ) w':=by
 have J:=zbG r g σ s w h
 go_enter Tryz.func134,Tryz.ntmps134
 go_wp2_with fail
 refine J.mono ?_;clear J;rintro e E ⟨rfl,y⟩;have G:Hid (zc r w E):=zc.of y;obtain ⟨p,z,D,o⟩:=h.below y;obtain ⟨R,Q,T,O⟩:=Zb o.blk;have K:p≤1099511627776:=by have:=o.lt;have:=o.few;omega
 have N:Hid (Z0 r g p z D σ E):=o;cases hi:zW s σ
 ·have A:Hid (ZG s σ=σ):=show _=_ by unfold ZG;rw [if_neg (by simp [hi])]
  clear h o y;go_wp2
  refine bodyPost_ret (v:=.bool false) (by simp [results,Tryz.results134,go_sem]) rfl ⟨by rw [hi],G.out,?_⟩
  rw [A.out];exact ⟨p,z,D,N.out⟩
 ·obtain ⟨I,L,H⟩:=xK hi
  have A:Hid (ZG s σ=(σ.1,σ.2.tail)):=show _=_ by unfold ZG;rw [if_pos hi,I]
  have M:Hid (Z0 r g (p+1) z D (σ.1,σ.2.tail) (E.setCell ⟨r,1,none⟩ (.int .i64 ((p:Int)+1)))):=o.step H;clear h o y I L H;go_wp2
  refine bodyPost_ret (v:=.bool true) (by simp [results,Tryz.results134,go_sem]) rfl ⟨by rw [hi],G.out.setCell _ _,?_⟩
  rw [A.out];exact ⟨_,_,_,M.out⟩
theorem VP (r g:Nat) (σ:RS) (s:List UInt8) (w:World) (h:zD r g σ w) :
  Calls Tryz.prog 136 #[.pointer (some ⟨r,0,none⟩),.string (za s)] w fun e w'=>e=.returned (.tuple #[])∧zc r w w'∧zD r g (Zd s σ) w':=by
 have y:=yp r g σ s w h;clear h;cases hi:zW s σ
 ·have E:Hid (Zd s σ=(true,σ.2)∧ZG s σ=σ):=⟨by unfold Zd;rw [if_neg (by simp [hi])],by unfold ZG;rw [if_neg (by simp [hi])]⟩
  rw [hi] at y
  go_enter Tryz.func136,Tryz.ntmps136
  go_wp2_with fail
  refine y.mono ?_;clear y;rintro e A ⟨rfl,z,D⟩;rw [E.out.2] at D;obtain ⟨p,H,K,o⟩:=D;obtain ⟨N,M,O,L⟩:=Zb o.blk;have J:Hid (Z0 r g p H K (true,σ.2) (A.setCell ⟨r,2,none⟩ (.bool true))):=o.fail;have G:Hid (zc r w A):=z;clear o z;go_wp2
  refine bodyPost_end (v:=.tuple #[]) (by simp [results,Tryz.results136]) rfl ⟨rfl,G.out.setCell _ _,?_⟩
  rw [E.out.1];exact ⟨_,_,_,J.out⟩
 ·have E:Hid (Zd s σ=ZG s σ):=show _=_ by unfold Zd ZG;rw [if_pos hi,if_pos hi]
  rw [hi] at y
  go_enter Tryz.func136,Tryz.ntmps136
  go_wp2_with fail
  refine y.mono ?_;clear y;rintro e A ⟨rfl,z,D⟩;have G:Hid (zc r w A):=z;have I:Hid (zD r g (Zd s σ) A):=show zD _ _ _ _ by rw [E.out];exact D
  clear z D;go_wp2
  exact bodyPost_end (v:=.tuple #[]) (by simp [results,Tryz.results136]) rfl ⟨rfl,G.out,I.out⟩
theorem QN (r g:Nat) (σ:RS) (w:World) (h:zD r g σ w) :
  Calls Tryz.prog 137 #[.pointer (some ⟨r,0,none⟩)] w fun e w'=>e=.returned (.string (za (nameF σ).1))∧zc r w w'∧zD r g (nameF σ).2 w':=by
 have N:=Xi r g σ w h;obtain ⟨t,K⟩:∃t,t=zx σ.2:=⟨_,rfl⟩;obtain ⟨b,L⟩:∃b,b=σ.1:=⟨_,rfl⟩;rw [←K] at N
 go_enter Tryz.func137,Tryz.ntmps137
 go_wp2_with fail
 refine N.mono ?_;clear N;rintro e D ⟨rfl,y⟩;simp only [YQ];obtain ⟨p,H,Q,o⟩:=h.below y;have I:∀ob,Z0 r g p H Q σ (D.alloc ob):=fun ob=>o.keep (Below.heap_alloc _ _ _ (Array.getElem?_eq_some_iff.1 o.blk).1) (Below.heap_alloc _ _ _ o.glt)
 have X:=fun ob=>(Zb (I ob).blk).2.1
 have U:=fun ob=>(Zb (I ob).blk).2.2.1
 have W:=fun ob j=>(Zb (I ob).blk).2.2.2 j
 have T:p≤1099511627776:=by have:=o.lt;have:=o.few;omega
 simp only [←L] at U;have G:Hid (Z0 r g p H Q σ D∧Below w.heap.size w D):=⟨o,y⟩;have R:r<D.heap.size:=(Array.getElem?_eq_some_iff.1 o.blk).1;have z:Hid (t=zx σ.2∧b=σ.1):=⟨K,L⟩;clear h y o I K L;obtain ⟨k,O,n,line,at0⟩:=t
 by_cases hc:b=false∧k=1
 ·obtain ⟨rfl,rfl⟩:=hc
  have A:Hid (nameF σ=(O,(σ.1,σ.2.tail))):=show _=_ by unfold nameF;rw [if_pos ⟨z.out.2.symm,by rw [←z.out.1]⟩,←z.out.1,←z.out.2]
  have J:Hid (∀ob,zD r g (σ.1,σ.2.tail) ((D.setCell ⟨r,1,none⟩ (.int .i64 ((p:Int)+1))).alloc ob)):=fun ob=>zD.alloc ⟨_,_,_,G.out.1.step (by rw [←z.out.1];exact Nat.one_ne_zero)⟩ ob
  go_wp2
  refine bodyPost_ret (v:=.string (za O)) (by simp [results,Tryz.results137,go_sem]) rfl ⟨by rw [A.out],((zc.of G.out.2).setCell _ _).alloc _,?_⟩
  rw [A.out];exact J.out _
 ·have A:Hid (nameF σ=([],(true,σ.2))):=show _=_ by unfold nameF;rw [if_neg (by rw [←z.out.1,←z.out.2];exact hc)]
  have J:Hid (∀ob,zD r g (true,σ.2) ((D.setCell ⟨r,2,none⟩ (.bool true)).alloc ob)):=fun ob=>zD.alloc ⟨_,_,_,G.out.1.fail⟩ ob
  cases b
  ·have E:¬ (k:Int)=1:=fun he=>hc ⟨rfl,by omega⟩
   have M:((k:Int)==1)=false:=by rw [beq_eq_false_iff_ne];exact E
   have V:((k:Int) != 1)=true:=by simp [bne,M]
   clear hc;go_wp2
   refine bodyPost_ret (v:=.string ⟨#[]⟩) (by simp [results,Tryz.results137,go_sem]) rfl ⟨by rw [A.out],((zc.of G.out.2).setCell _ _).alloc _,?_⟩
   rw [A.out];exact J.out _
  ·clear hc
   go_wp2
   refine bodyPost_ret (v:=.string ⟨#[]⟩) (by simp [results,Tryz.results137,go_sem]) rfl ⟨by rw [A.out],((zc.of G.out.2).setCell _ _).alloc _,?_⟩
   rw [A.out];exact J.out _
def zN (r g:Nat) (w:World) (q:Ex × RS) (e:Ending) (w':World):Prop:=zc r w w'∧∃v,e=.returned v∧zO w.heap.size w' q.1 v∧zD r g q.2 w'
def xA (r g:Nat) (w:World) (q:List Ex × RS) (e:Ending) (w':World):Prop:=zc r w w'∧∃v,e=.returned v∧Zw w.heap.size w' q.1 v∧zD r g q.2 w'
theorem zN.of_set5 {r g N B:Nat} {w w5:World} {σ:RS} {l:List Ex} {v:Value} (k:Nat) (s:List UInt8) (n:Int) (line:Nat) (hK:zc r w w5) (hN:w.heap.size≤N) (hr:r<w.heap.size) (hg:g<w.heap.size) (hrow:Zw B w5 l v) (hB:N<B) (hrd:zD r g σ w5) :
  zN r g w (.mk k s n l line,σ) (.returned (.agg #[.int .i64 k,.string (za s),.int .i64 n,v,.int .i64 line])) (set5 w5 N (.int .i64 k) (.string (za s)) (.int .i64 n) v (.int .i64 line)):=by
 refine ⟨Zs hK hN _ _ _ _ _,_,rfl,?_,hrd.keep (zi _ _ _ _ _ _ _ (by omega)) (zi _ _ _ _ _ _ _ (by omega))⟩
 have h:=hrow.kept (w':=set5 w5 N (.int .i64 k) (.string (za s)) (.int .i64 n) v (.int .i64 line)) (by simp) fun k hB _=>zi _ _ _ _ _ _ _ (by omega)
 exact zO.of_row (h.mono (by omega)) k s n line
theorem zN.of_set5' {r g N B:Nat} {w w5:World} {σ:RS} {x:Ex} {a b c d e:Value} (hK:zc r w w5) (hN:w.heap.size≤N) (hr:r<w.heap.size) (hg:g<w.heap.size) (hx:zO B w5 x (.agg #[a,b,c,d,e])) (hB:N<B) (hrd:zD r g σ w5) :
  zN r g w (x,σ) (.returned (.agg #[a,b,c,d,e])) (set5 w5 N a b c d e):=by
 refine ⟨Zs hK hN _ _ _ _ _,_,rfl,?_,hrd.keep (zi _ _ _ _ _ _ _ (by omega)) (zi _ _ _ _ _ _ _ (by omega))⟩
 exact zO.mono (zO.kept hx (w':=set5 w5 N a b c d e) (by simp) fun k hB _=>zi _ _ _ _ _ _ _ (by omega)) (by omega)
structure ZN (r g N:Nat) (w:World) (e:Ex) (σ:RS) (a:Int) (b:ByteArray) (c:Int) (d0:Option Addr) (d1 d2:Nat) (l:Int) (wr:World):Prop where
 blk:wr.heap[N]?=some (.cells #[.int .i64 a,.string b,.int .i64 c,.slice d0 d1 d2,.int .i64 l] 90 (0,0))
 ex:zJ (fun k=>w.heap.size<k∧k≠N) wr e (.agg #[.int .i64 a,.string b,.int .i64 c,.slice d0 d1 d2,.int .i64 l])
 rd:zD r g σ wr
 kept:zc r w wr
 res:wr.heap[w.heap.size]?=some zL
def YY (r g N F:Nat) (w:World) (res:Ex × RS) (p:Nat→Ex→RS→Option (Ex × RS)) (wr:World):Prop :=
 ∃e σ f a b c d0 d1 d2 l,f≤F∧p f e σ=some res∧ZN r g N w e σ a b c d0 d1 d2 l wr
theorem ZN.leave {r g N:Nat} {w wr W:World} {e:Ex} {σ σ':RS} {a:Int} {b:ByteArray} {c:Int} {d0:Option Addr} {d1 d2:Nat} {l:Int} (h:ZN r g N w e σ a b c d0 d1 d2 l wr) (hr:r<w.heap.size) (hg:g<w.heap.size) (hNw:w.heap.size<N) (hK:zc r wr W) (hrd:zD r g σ' W) :
  W.heap[N]?=some (.cells #[.int .i64 a,.string b,.int .i64 c,.slice d0 d1 d2,.int .i64 l] 90 (0,0))∧W.heap[w.heap.size]?=some zL ∧
  zN r g w (e,σ') (.returned (.agg #[.int .i64 a,.string b,.int .i64 c,.slice d0 d1 d2,.int .i64 l])) (set5 W w.heap.size (.int .i64 a) (.string b) (.int .i64 c) (.slice d0 d1 d2) (.int .i64 l)):=by
 refine ⟨(hK.block _ (Array.getElem?_eq_some_iff.1 h.blk).1 (by omega)).trans h.blk,(hK.block _ (Array.getElem?_eq_some_iff.1 h.res).1 (by omega)).trans h.res,?_⟩
 refine zN.of_set5' (B:=w.heap.size+1) (h.kept.trans hK) (Nat.le_refl _) hr hg ?_ (Nat.lt_succ_self _) hrd;exact zJ.wide (zJ.kept h.ex hK.size fun k hk' hlt=>hK.block k hlt (by omega)) fun k hk'=>hk'.1
theorem ZN.start {r g:Nat} {w w0 w1:World} {x:Ex} {σ:RS} {a:Int} {b:ByteArray} {c:Int} {d0:Option Addr} {d1 d2:Nat} {l:Int} (hsz:w.heap.size<w0.heap.size) (hz:w0.heap[w.heap.size]?=some zL) (hk0:zc r w w0) (hr:r<w.heap.size) (hk:zc r w0 w1)
  (hx:zO w0.heap.size w1 x (.agg #[.int .i64 a,.string b,.int .i64 c,.slice d0 d1 d2,.int .i64 l])) (hrd:zD r g σ w1) :
  ZN r g w1.heap.size w x σ a b c d0 d1 d2 l (w1.alloc (.cells #[.int .i64 a,.string b,.int .i64 c,.slice d0 d1 d2,.int .i64 l] 90)) where
 blk:=World.alloc_heap_new _ _
 ex:=zJ.wide (zJ.kept (zJ.low hx) (by simp) fun k hk _=>Below.heap_alloc _ _ _ hk.2) fun k hk=>⟨by omega,by omega⟩
 rd:=hrd.alloc _
 kept:=(hk0.trans hk).alloc _
 res:=by
  have:=hk.size
  rw [Below.heap_alloc _ _ _ (by omega),hk.block _ (by omega) (by omega)];exact hz
theorem ZN.moved {r g N:Nat} {w wr W:World} {e:Ex} {σ σ':RS} {a:Int} {b:ByteArray} {c:Int} {d0:Option Addr} {d1 d2:Nat} {l:Int} (h:ZN r g N w e σ a b c d0 d1 d2 l wr) (hr:r<w.heap.size) (hNw:w.heap.size<N) (hK:zc r wr W) (hrd:zD r g σ' W):ZN r g N w e σ' a b c d0 d1 d2 l W where
 blk:=(hK.block _ (Array.getElem?_eq_some_iff.1 h.blk).1 (by omega)).trans h.blk
 ex:=zJ.kept h.ex hK.size fun k hk' hlt=>hK.block k hlt (by omega)
 rd:=hrd
 kept:=h.kept.trans hK
 res:=(hK.block _ (Array.getElem?_eq_some_iff.1 h.res).1 (by omega)).trans h.res
theorem ZN.two {r g N:Nat} {w wr wE w7:World} {e x:Ex} {σ σ7:RS} {a2:Int} {b2:ByteArray} {c2:Int} {p2:Option Addr} {q2 s2:Nat} {l2:Int} {a3:Int} {b3:ByteArray} {c3:Int} {u0:Option Addr} {u1 u2:Nat} {l3:Int}
  (k:Nat) (s:List UInt8) (h:ZN r g N w e σ a2 b2 c2 p2 q2 s2 l2 wr) (hr:r<w.heap.size) (hg:g<w.heap.size) (hNw:w.heap.size<N) (hkE:zc r wr wE) (hk7:zc r wE w7)
  (hx7:zO wE.heap.size w7 x (.agg #[.int .i64 a3,.string b3,.int .i64 c3,.slice u0 u1 u2,.int .i64 l3])) (hrd:zD r g σ7 w7) (kv:Value) (hkv:kv=.int .i64 k) (W:World)
  (hW:W=(set5 w7 N kv (.string (za s)) (.int .i64 0) (.slice (some ⟨w7.heap.size,0,none⟩) 2 2) (.int .i64 l2)).alloc (.cells #[.int .i64 a2,.string b2,.int .i64 c2,.slice p2 q2 s2,.int .i64 l2,.int .i64 a3,.string b3,.int .i64 c3,.slice u0 u1 u2,.int .i64 l3] 90)) :
  ZN r g N w (.mk k s 0 [e,x] e.line) σ7 k (za s) 0 (some ⟨w7.heap.size,0,none⟩) 2 2 (e.line:Int) W:=by
 obtain rfl:l2=(e.line:Int):=h.ex.line_eq;have z:=h.moved hr hNw (hkE.trans hk7) hrd;have A:=(Array.getElem?_eq_some_iff.1 z.blk).1;rw [←YF _ _ _ _ _ _ A] at hW;subst hkv;have J:=hk7.size;have G:=hkE.size;have I:=(Array.getElem?_eq_some_iff.1 h.blk).1;have E:=(Array.getElem?_eq_some_iff.1 z.res).1;have o:=zK.two 90 (c:=[.int .i64 a2,.string b2,.int .i64 c2,.slice p2 q2 s2,.int .i64 (e.line:Int)]) (d:=[.int .i64 a3,.string b3,.int .i64 c3,.slice u0 u1 u2,.int .i64 l3]) z.ex (zJ.wide hx7 fun k hk'=>⟨by omega,by omega⟩) rfl rfl ⟨by omega,by omega⟩
 simp only [List.cons_append,List.nil_append] at o;obtain ⟨ob,D⟩:∃ob:Obj,ob=.cells #[.int .i64 a2,.string b2,.int .i64 c2,.slice p2 q2 s2,.int .i64 (e.line:Int),.int .i64 a3,.string b3,.int .i64 c3,.slice u0 u1 u2,.int .i64 l3] 90:=⟨_,rfl⟩;rw [←D] at hW;have y:zK (fun k=>w.heap.size<k∧k≠N) (w7.alloc ob) [e,x] (.slice (some ⟨w7.heap.size,0,none⟩) 2 2):=by rw [D];exact o
 have H:(w7.alloc ob).heap.size=w7.heap.size+1:=by simp
 subst hW;refine ⟨Z8 ((Below.heap_alloc _ _ _ A).trans z.blk) _ _ _ _ _,?_,(hrd.alloc ob).keep (zi _ _ _ _ _ _ _ (by omega)) (zi _ _ _ _ _ _ _ (by omega)),Zs (z.kept.alloc _) (by omega) _ _ _ _ _,?_⟩
 ·exact zJ.of_row (y.kept (w':=set5 (w7.alloc ob) N (.int .i64 k) (.string (za s)) (.int .i64 0) (.slice (some ⟨w7.heap.size,0,none⟩) 2 2) (.int .i64 (e.line:Int))) (by simp) fun k hk _=>zi _ _ _ _ _ _ _ hk.2) k s 0 e.line
 ·rw [zi _ _ _ _ _ _ _ (by omega),Below.heap_alloc _ _ _ E];exact z.res
theorem ZN.one {r g N:Nat} {w wr w7:World} {e:Ex} {σ σ7:RS} {a2:Int} {b2:ByteArray} {c2:Int} {p2:Option Addr} {q2 s2:Nat} {l2:Int}
  (k:Nat) (s:List UInt8) (h:ZN r g N w e σ a2 b2 c2 p2 q2 s2 l2 wr) (hr:r<w.heap.size) (hg:g<w.heap.size) (hNw:w.heap.size<N) (hk7:zc r wr w7) (hrd:zD r g σ7 w7) (kv:Value) (hkv:kv=.int .i64 k) (W:World)
  (hW:W=(set5 w7 N kv (.string (za s)) (.int .i64 0) (.slice (some ⟨w7.heap.size,0,none⟩) 1 1) (.int .i64 l2)).alloc (.cells #[.int .i64 a2,.string b2,.int .i64 c2,.slice p2 q2 s2,.int .i64 l2] 90)) :
  ZN r g N w (.mk k s 0 [e] e.line) σ7 k (za s) 0 (some ⟨w7.heap.size,0,none⟩) 1 1 (e.line:Int) W:=by
 obtain rfl:l2=(e.line:Int):=h.ex.line_eq;have y:=h.moved hr hNw hk7 hrd;have z:=(Array.getElem?_eq_some_iff.1 y.blk).1;rw [←YF _ _ _ _ _ _ z] at hW;subst hkv;have I:=hk7.size;have H:=(Array.getElem?_eq_some_iff.1 h.blk).1;have E:=(Array.getElem?_eq_some_iff.1 y.res).1;have D:=zK.one 90 (c:=[.int .i64 a2,.string b2,.int .i64 c2,.slice p2 q2 s2,.int .i64 (e.line:Int)]) y.ex rfl ⟨by omega,by omega⟩
 obtain ⟨ob,A⟩:∃ob:Obj,ob=.cells #[.int .i64 a2,.string b2,.int .i64 c2,.slice p2 q2 s2,.int .i64 (e.line:Int)] 90:=⟨_,rfl⟩;rw [←A] at hW;have o:zK (fun k=>w.heap.size<k∧k≠N) (w7.alloc ob) [e] (.slice (some ⟨w7.heap.size,0,none⟩) 1 1):=by rw [A];exact D
 have G:(w7.alloc ob).heap.size=w7.heap.size+1:=by simp
 subst hW;refine ⟨Z8 ((Below.heap_alloc _ _ _ z).trans y.blk) _ _ _ _ _,?_,(hrd.alloc ob).keep (zi _ _ _ _ _ _ _ (by omega)) (zi _ _ _ _ _ _ _ (by omega)),Zs (y.kept.alloc _) (by omega) _ _ _ _ _,?_⟩
 ·exact zJ.of_row (o.kept (w':=set5 (w7.alloc ob) N (.int .i64 k) (.string (za s)) (.int .i64 0) (.slice (some ⟨w7.heap.size,0,none⟩) 1 1) (.int .i64 (e.line:Int))) (by simp) fun k hk _=>zi _ _ _ _ _ _ _ hk.2) k s 0 e.line
 ·rw [zi _ _ _ _ _ _ _ (by omega),Below.heap_alloc _ _ _ E];exact y.res
theorem ZN.one' {r g N:Nat} {w wr w7:World} {e:Ex} {σ σ7:RS} {a2:Int} {b2:ByteArray} {c2:Int} {p2:Option Addr} {q2 s2:Nat} {l2:Int} (wE:World)
  (k:Nat) (s:List UInt8) (h:ZN r g N w e σ a2 b2 c2 p2 q2 s2 l2 wr) (hr:r<w.heap.size) (hg:g<w.heap.size) (hNw:w.heap.size<N) (hkE:zc r wr wE)
  (hk7:zc r (wE.alloc (.cells #[.int .i64 a2,.string b2,.int .i64 c2,.slice p2 q2 s2,.int .i64 l2] 90)) w7) (hrd:zD r g σ7 w7) (kv:Value) (hkv:kv=.int .i64 k) (W:World)
  (hW:W=set5 w7 N kv (.string (za s)) (.int .i64 0) (.slice (some ⟨wE.heap.size,0,none⟩) 1 1) (.int .i64 l2)) :
  ZN r g N w (.mk k s 0 [e] e.line) σ7 k (za s) 0 (some ⟨wE.heap.size,0,none⟩) 1 1 (e.line:Int) W:=by
 obtain rfl:l2=(e.line:Int):=h.ex.line_eq;subst hkv;have E:=hk7.size;have H:=hkE.size;simp only [World.size_alloc] at E;have I:=(Array.getElem?_eq_some_iff.1 h.blk).1;have G:=(Array.getElem?_eq_some_iff.1 h.res).1;have y:zc r wr w7:=(hkE.alloc _).trans hk7;have A:=h.moved hr hNw y hrd;have D:=zJ.kept h.ex hkE.size fun k hk' hlt=>hkE.block k hlt (by omega)
 have z:=zK.one 90 (c:=[.int .i64 a2,.string b2,.int .i64 c2,.slice p2 q2 s2,.int .i64 (e.line:Int)]) D rfl ⟨by omega,by omega⟩
 have o:=z.kept hk7.size fun k hk' hlt=>hk7.block k hlt (by omega)
 subst hW;refine ⟨Z8 A.blk _ _ _ _ _,?_,hrd.keep (zi _ _ _ _ _ _ _ (by omega)) (zi _ _ _ _ _ _ _ (by omega)),Zs A.kept (by omega) _ _ _ _ _,?_⟩
 ·exact zJ.of_row (o.kept (w':=set5 w7 N (.int .i64 k) (.string (za s)) (.int .i64 0) (.slice (some ⟨wE.heap.size,0,none⟩) 1 1) (.int .i64 (e.line:Int))) (by simp) fun k hk _=>zi _ _ _ _ _ _ _ hk.2) k s 0 e.line
 ·rw [zi _ _ _ _ _ _ _ (by omega)];exact A.res
end Go.Proofs.YtmbofhpmockmbaaGreatDoor
