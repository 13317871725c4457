import Derived.Test.YtpejpbbdgblbeaaGreatDoorMC30
import Derived.Test.YtpejpbbdgblbeaaGreatDoorMC12
import Derived.Test.YtpejpbbdgblbeaaGreatDoorMC4
import Derived.Test.YtpejpbbdgblbeaaGreatDoorMC29
namespace Go.Proofs.YtpejpbbdgblbeaaGreatDoor
open Go.RowKit Go.Shelf
set_option maxHeartbeats 16000000
set_option maxRecDepth 100000
theorem qL (l:List UInt8) (w:World) (ht:yz w) (hl:Zz w) (he:Y7 w) :
  Calls Tryz.prog 8 #[.string (zb l)] w fun e w' =>
   ∃(x:Pg) (at0 h:Nat) (v:Value),e=.returned (.tuple #[v,.int .i64 at0,.int .i64 h])∧Z4 l x at0 h∧yT w.heap.size w' x v∧Below w.heap.size w w':=by
 have J:Below w.heap.size w (w.alloc x7):=(Below.refl w.heap.size w).alloc (Nat.le_refl _) _;have N:=zgF l (w.alloc x7) (ht.below J (Nat.le_refl _)) (fun j v hj=>zj (hl j v hj) _) (zj he _)
 go_enter Tryz.func8,Tryz.ntmps8
 go_wp2_with fail
 refine N.mono ?_;clear N;rintro e w1 ⟨x,at0,h,v,rfl,O,I,o⟩;obtain ⟨z,G,y,D,A,s,rfl⟩:=I.agg;have K:(w.alloc x7).heap.size=w.heap.size+1:=by simp
 rw [K] at I o;have L:w1.heap[w.heap.size]?=some x7:=(o.block w.heap.size (by omega)).trans (World.alloc_heap_new w _)
 obtain ⟨Y,Z,W⟩:=Zv L;obtain ⟨T,V⟩:=xo L (.slice z G y) (.slice D A s);have H:Below w.heap.size w w1:=J.trans (o.mono (by omega))
 have Q:Hid (Below w.heap.size w (XI w1 w.heap.size (.slice z G y) (.slice D A s))) :=
  (H.setCell (p:=⟨w.heap.size,0,none⟩) (by simp) _).setCell (p:=⟨w.heap.size,1,none⟩) (by simp) _
 have U:Hid (yT w.heap.size (XI w1 w.heap.size (.slice z G y) (.slice D A s)) x (.agg #[.slice z G y,.slice D A s])) :=
  yT.mono (yT.kept I (w':=XI w1 w.heap.size (.slice z G y) (.slice D A s)) (by simp) fun j hj _=>VE _ _ _ _ (by omega)) (by omega)
 have R:Hid (Z4 l x at0 h):=O;clear J H I o O L ht hl he;go_wp2
 exact bodyPost_ret (v:=.tuple #[.agg #[.slice z G y,.slice D A s],.int .i64 at0,.int .i64 h]) (by simp [results,Tryz.results8,go_sem,T,V]) rfl ⟨x,at0,h,_,rfl,R.out,U.out,Q.out⟩
theorem zfn (l:List UInt8) (w:World) (ht:yz w) (hl:Zz w) (he:Y7 w) :
  Calls Tryz.prog 19 #[.string (zb l)] w fun e w' =>
   ∃(x:Ex) (at0 h:Nat) (v:Value),e=.returned (.tuple #[v,.int .i64 at0,.int .i64 h])∧Yo l x at0 h∧ZL w.heap.size w' x v∧Below w.heap.size w w':=by
 have G:Below w.heap.size w (w.alloc Zu):=(Below.refl w.heap.size w).alloc (Nat.le_refl _) _;have J:=zgE l (w.alloc Zu) (ht.below G (Nat.le_refl _)) (fun j v hj=>zj (hl j v hj) _) (zj he _)
 go_enter Tryz.func19,Tryz.ntmps19
 go_wp2_with fail
 refine J.mono ?_;clear J;rintro e w1 ⟨x,at0,h,v,rfl,K,D,o⟩;obtain ⟨a,b,c,z,y,s,k,rfl⟩:=D.agg;have H:(w.alloc Zu).heap.size=w.heap.size+1:=by simp
 rw [H] at D o;have I:w1.heap[w.heap.size]?=some Zu:=(o.block w.heap.size (by omega)).trans (World.alloc_heap_new w _)
 obtain ⟨q0,q1,q2,Y,Z,W⟩:=zR I;obtain ⟨R,T,Q,V,U⟩:=zT I (.int .i64 a) (.string b) (.int .i64 c) (.slice z y s) (.int .i64 k);have A:Below w.heap.size w w1:=G.trans (o.mono (by omega))
 have L:Hid (Below w.heap.size w (set5 w1 w.heap.size (.int .i64 a) (.string b) (.int .i64 c) (.slice z y s) (.int .i64 k))) :=
  ((((A.setCell (p:=⟨w.heap.size,0,none⟩) (by simp) _).setCell (p:=⟨w.heap.size,1,none⟩) (by simp) _).setCell (p:=⟨w.heap.size,2,none⟩) (by simp) _).setCell (p:=⟨w.heap.size,3,none⟩) (by simp) _).setCell (p:=⟨w.heap.size,4,none⟩) (by simp) _
 have O:Hid (ZL w.heap.size (set5 w1 w.heap.size (.int .i64 a) (.string b) (.int .i64 c) (.slice z y s) (.int .i64 k)) x (.agg #[.int .i64 a,.string b,.int .i64 c,.slice z y s,.int .i64 k])) :=
  ZL.mono (ZL.kept D (w':=set5 w1 w.heap.size (.int .i64 a) (.string b) (.int .i64 c) (.slice z y s) (.int .i64 k)) (by simp) fun j hj _=>zr _ _ _ _ _ _ _ (by omega)) (by omega)
 have N:Hid (Yo l x at0 h):=K;clear G A D o K I ht hl he;go_wp2
 exact bodyPost_ret (v:=.tuple #[.agg #[.int .i64 a,.string b,.int .i64 c,.slice z y s,.int .i64 k],.int .i64 at0,.int .i64 h]) (by simp [results,Tryz.results19,go_sem,R,T,Q,V,U]) rfl ⟨x,at0,h,_,rfl,N.out,O.out,L.out⟩
mutual
def VG:Ex→Ez
 | .mk k s n kids line=>.mk k s n (Yh kids) line
def Yh:List Ex→List Ez
 | []=>[]
 | x::xs=>VG x::Yh xs
end
theorem uV (l:List Ex):Yh l=l.map VG:=by
 induction l with
 | nil=>rfl
 | cons x xs ih=>rw [Yh,ih];rfl
mutual
def Vq:Ex→Bool
 | .mk _ s n kids _=>decide (s.length≤100000000)&&decide (-9223372036854775808≤n)&&decide (n≤9223372036854775807)&&uW kids
def uW:List Ex→Bool
 | []=>true
 | x::xs=>Vq x&&uW xs
end
theorem zbI {l:List Ex} (h:uW l=true):∀{i:Nat} {x:Ex},l[i]?=some x→Vq x=true:=by
 induction l with
 | nil=>intro i x o;simp at o
 | cons y ys ih =>
  intro i x o;rw [uW,Bool.and_eq_true] at h;cases i with
  | zero=>simp only [List.getElem?_cons_zero,Option.some.injEq] at o;subst o;exact h.1
  | succ i=>exact ih h.2 (by simpa using o)
theorem zV.ez {S:Nat→Prop} {B:Nat} {w:World} {x:Ex} {v:Value} (h:zV S w x v) (hS:∀k,S k→k<w.heap.size→k<B) (hok:Vq x=true):Zs B w (VG x) v:=by
 induction h with
 | leaf k s n line =>
  rw [Vq] at hok;simp only [Bool.and_eq_true,decide_eq_true_eq] at hok;exact Zs.mk (k:Int) s n [] (line:Int) none 0 0 0 [] hok.1.1.1 hok.1.1.2 hok.1.2 (fun h=>absurd rfl h) rfl (Nat.le_refl _) (Nat.zero_le _) (fun j u hj=>by simp at hj) (fun c hc=>by simp at hc) (fun j x c hx=>by simp at hx)
 | node k s n kids line g cap us hne hlen hB hg hc hm hcell hfive _ ih =>
  rw [Vq] at hok;simp only [Bool.and_eq_true,decide_eq_true_eq] at hok;have e:(Yh kids).length=kids.length:=by rw [uV,List.length_map]
  have:=Zs.mk (B:=B) (w:=w) (k:Int) s n (Yh kids) (line:Int) (some ⟨g,0,none⟩) cap g 0 us hok.1.1.1 hok.1.1.2 hok.1.2 (fun _=>⟨rfl,hS g hB hg,hg⟩) (by rw [e];exact hlen) (by rw [e];exact hc) hm (fun j u hj=>by rw [Nat.zero_add];exact hcell j u hj) hfive (fun j x c hx hc'=>by
   rw [uV,List.getElem?_map] at hx;cases hy:kids[j]? with
   | none=>rw [hy] at hx;simp at hx
   | some y =>
    rw [hy] at hx;simp only [Option.map_some,Option.some.injEq] at hx;subst hx
    exact ih j y c hy hc' (zbI hok.2 hy))
  rw [e] at this;exact this
mutual
def qY:St→Sz
 | .mk k s es body els line=>.mk k s (Yh es) (Yr body) (Yr els) line
def Yr:List St→List Sz
 | []=>[]
 | x::xs=>qY x::Yr xs
end
theorem zdJ (l:List St):Yr l=l.map qY:=by
 induction l with
 | nil=>rfl
 | cons x xs ih=>rw [Yr,ih];rfl
mutual
def okS:St→Bool
 | .mk _ s es body els _=>decide (s.length≤100000000)&&uW es&&XW body&&XW els
def XW:List St→Bool
 | []=>true
 | x::xs=>okS x&&XW xs
end
theorem uX {l:List St} (h:XW l=true):∀{i:Nat} {x:St},l[i]?=some x→okS x=true:=by
 induction l with
 | nil=>intro i x o;simp at o
 | cons y ys ih =>
  intro i x o;rw [XW,Bool.and_eq_true] at h;cases i with
  | zero=>simp only [List.getElem?_cons_zero,Option.some.injEq] at o;subst o;exact h.1
  | succ i=>exact ih h.2 (by simpa using o)
mutual
def hiS:St→Nat
 | .mk _ _ _ body els _=>1+max (V5 body) (V5 els)
def V5:List St→Nat
 | []=>0
 | x::xs=>max (hiS x) (V5 xs)
end
theorem uY {l:List St}:∀{i:Nat} {x:St},l[i]?=some x→hiS x≤V5 l:=by
 induction l with
 | nil=>intro i x h;simp at h
 | cons y ys ih =>
  intro i x h;rw [V5];cases i with
  | zero=>simp only [List.getElem?_cons_zero,Option.some.injEq] at h;subst h;omega
  | succ i=>have:=ih (i:=i) (x:=x) (by simpa using h);omega
theorem qM {α β:Type} {P:β→List Value→Prop} {f:α→β} {sz B g cap:Nat} {w:World} {l:List α} {us:List (List Value)} (hlen:us.length=l.length) (hB:g<B) (hg:g<w.heap.size) (hc:l.length≤cap) (hm:cap≤maxLen) (hcell:∀j u,us.flatten[j]?=some u→w.cell? ⟨g,j,none⟩=some u) (hw:∀c∈us,c.length=sz)
  (hk:∀(j:Nat) (x:α) (c:List Value),l[j]?=some x→us[j]?=some c→P (f x) c):Zk P sz B w (l.map f) (some ⟨g,0,none⟩) l.length cap:=by
 refine ⟨by rw [List.length_map],by rw [List.length_map];exact hc,hm,fun i x hx=>?_⟩
 rw [List.getElem?_map] at hx;cases hy:l[i]? with
 | none=>rw [hy] at hx;simp at hx
 | some y =>
  rw [hy] at hx;simp only [Option.map_some,Option.some.injEq] at hx;subst hx;have z:i<l.length:=(List.getElem?_eq_some_iff.1 hy).1;obtain ⟨c,h⟩:∃c,us[i]?=some c:=⟨us[i]'(by omega),List.getElem?_eq_getElem (by omega)⟩
  have o:c.length=sz:=hw c (List.mem_of_getElem? h);refine ⟨g,0,c,rfl,hB,hg,o,hk i y c hy h,fun j u hj=>?_⟩
  have s:j<sz:=by rw [←o];exact (List.getElem?_eq_some_iff.1 hj).1
  rw [Nat.zero_add];exact hcell _ _ ((zfm hw h s).trans hj)
theorem uZ {α β:Type} {P:β→List Value→Prop} {f:α→β} {sz B:Nat} {w:World}:Zk P sz B w (([]:List α).map f) none 0 0:=⟨rfl,Nat.le_refl _,Nat.zero_le _,fun i x hx=>by simp at hx⟩
theorem zI.rowZ {S:Nat→Prop} {B:Nat} {w:World} {l:List Ex} {v:Value} (h:zI S w l v) (hS:∀k,S k→k<w.heap.size→k<B) (hok:uW l=true):∃b m cap,v=.slice b m cap∧Zk (qI B w) 5 B w (Yh l) b m cap:=by
 rw [uV];rcases h with ⟨rfl,rfl⟩ | ⟨g,cap,I,rfl,_,s,z,y,D,H,o,A,G⟩
 ·exact ⟨none,0,0,rfl,uZ⟩
 ·exact ⟨_,_,_,rfl,qM s (hS g z y) y D H o A fun j x c hx hc'=>zV.ez (G j x c hx hc') hS (zbI hok hx)⟩
theorem xB.rowZ {S:Nat→Prop} {B f:Nat} {w:World} {l:List St} {v:Value} {g cap:Nat} {us:List (List Value)} (h:xB S w l v g cap us) (hS:∀k,S k→k<w.heap.size→k<B)
  (hk:∀(j:Nat) (x:St) (c:List Value),l[j]?=some x→us[j]?=some c→ZN B w f (qY x) c):∃b m cap,v=.slice b m cap∧Zk (ZN B w f) 6 B w (Yr l) b m cap:=by
 rw [zdJ];rcases h with ⟨rfl,rfl⟩ | ⟨rfl,_,s,z,y,D,G,o,A⟩
 ·exact ⟨none,0,0,rfl,uZ⟩
 ·exact ⟨_,_,_,rfl,qM s (hS g z y) y D G o A hk⟩
theorem yg.sz {S:Nat→Prop} {B:Nat} {w:World} {x:St} {v:Value} (h:yg S w x v) (hS:∀k,S k→k<w.heap.size→k<B):∀(f:Nat) (c:List Value),hiS x≤f→okS x=true→v=.agg c.toArray→ZN B w f (qY x) c:=by
 induction h with
 | mk k s es body els line ve vb vl gb cb gl cl ub ul he hbr hbk hl hlk ih1 ih2 =>
  intro f c O o Q;rw [hiS] at O;rw [okS] at o;simp only [Bool.and_eq_true,decide_eq_true_eq] at o;obtain ⟨f,rfl⟩:∃f',f=f'+1:=⟨f-1,by omega⟩
  obtain ⟨K,J,G,rfl,R⟩:=he.rowZ hS o.1.1.2;obtain ⟨L,H,z,rfl,N⟩:=hbr.rowZ (f:=f) hS fun j x c hx hc=>ih1 j x c hx hc f c (by have:=uY hx;omega) (uX o.1.2 hx) rfl
  obtain ⟨I,D,y,rfl,T⟩:=hl.rowZ (f:=f) hS fun j x c hx hc=>ih2 j x c hx hc f c (by have:=uY hx;omega) (uX o.2 hx) rfl
  have A:c=[.int .i64 k,.string (zb s),.slice K J G,.slice L H z,.slice I D y,.int .i64 line]:=by
   have:=congrArg (fun v=>match v with | .agg a=>a.toList | _=>[]) Q
   simpa using this.symm
  exact ⟨K,J,G,L,H,z,I,D,y,A,o.1.1.1,R,N,T⟩
def rcz (x:Rc):Rz:=⟨x.name,x.fields,x.line⟩
def fcz (x:Fc):Fz:=⟨x.name,x.params,x.result,Yr x.body,x.line⟩
def pgz (x:Pg):Pz:=⟨x.recs.map rcz,x.funs.map fcz⟩
def qN (l:List Pm):Bool:=l.all fun p=>decide (p.1.length≤100000000)&&decide (p.2.length≤100000000)
def zdK (x:Rc):Bool:=decide (x.name.length≤100000000)&&qN x.fields
def zdL (x:Fc):Bool:=decide (x.name.length≤100000000)&&decide (x.result.length≤100000000)&&qN x.params&&XW x.body
def za6 (x:Pg):Bool:=x.recs.all zdK&&x.funs.all zdL
def hiPg (x:Pg):Nat:=(x.funs.map fun y=>V5 y.body).foldr max 0
theorem zdM {l:List Fc} {y:Fc} (h:y∈l):V5 y.body≤(l.map fun y=>V5 y.body).foldr max 0:=by
 induction l with
 | nil=>simp at h
 | cons z zs ih =>
  rw [List.map_cons,List.foldr_cons];rcases List.mem_cons.1 h with rfl | h
  ·omega
  ·have:=ih h;omega
theorem Xt.rowZ {α β:Type} {E:(Nat→Prop)→World→α→List Value→Prop} {P:β→List Value→Prop} {f:α→β} {sz:Nat} {S:Nat→Prop} {B:Nat} {w:World} {l:List α} {v:Value} (h:Xt E sz S w l v) (hS:∀k,S k→k<w.heap.size→k<B)
  (hk:∀(x:α) (c:List Value),x∈l→E S w x c→P (f x) c):∃b m cap,v=.slice b m cap∧Zk P sz B w (l.map f) b m cap:=by
 rcases h with ⟨rfl,rfl⟩ | ⟨g,cap,I,rfl,_,s,A,z,G,H,o,D,y⟩
 ·exact ⟨none,0,0,rfl,uZ⟩
 ·exact ⟨_,_,_,rfl,qM s (hS g A z) z G H o D fun j x c hx hc'=>hk x c (List.mem_of_getElem? hx) (y j x c hx hc')⟩
theorem uP.rowZ {S:Nat→Prop} {B:Nat} {w:World} {l:List Pm} {v:Value} (h:uP S w l v) (hS:∀k,S k→k<w.heap.size→k<B) (hok:qN l=true):∃b m cap,v=.slice b m cap∧Zk PmZ 2 B w l b m cap:=by
 have:=Xt.rowZ (P:=PmZ) (f:=fun x:Pm=>(x:List UInt8 × List UInt8)) h hS fun x c hx hc=>by
  have o:=List.all_eq_true.1 hok x hx;simp only [Bool.and_eq_true,decide_eq_true_eq] at o;exact ⟨hc,o.1,o.2⟩
 simpa using this
theorem xu.pz {S:Nat→Prop} {B:Nat} {w:World} {x:Pg} {v:Value} (h:xu S w x v) (hS:∀k,S k→k<w.heap.size→k<B) (hok:za6 x=true):Xi B w (hiPg x) (pgz x) v:=by
 obtain ⟨U,W,rfl,T,N⟩:=h
 unfold za6 at hok
 rw [Bool.and_eq_true] at hok
 obtain ⟨b,m,o,rfl,I⟩:=T.rowZ (P:=xX B w) (f:=rcz) hS fun x c hx hc=>by
  have A:=List.all_eq_true.1 hok.1 x hx
  unfold zdK at A
  simp only [Bool.and_eq_true,decide_eq_true_eq] at A;obtain ⟨L,rfl,H⟩:=hc;obtain ⟨b,m,o,rfl,D⟩:=uP.rowZ H hS A.2;exact ⟨b,m,o,rfl,A.1,D⟩
 obtain ⟨J,G,s,rfl,Q⟩:=N.rowZ (P:=xY B w (hiPg x)) (f:=fcz) hS fun y c hx hc=>by
  have A:=List.all_eq_true.1 hok.2 y hx
  unfold zdL at A
  simp only [Bool.and_eq_true,decide_eq_true_eq] at A;obtain ⟨L,Y,rfl,H,O⟩:=hc;obtain ⟨b,m,o,rfl,D⟩:=uP.rowZ H hS A.1.2;obtain ⟨g,Z,V,I,R⟩:=O;obtain ⟨J,G,s,rfl,K⟩:=I.rowZ (f:=hiPg x) hS fun j z c hz hc=>yg.sz (R j z c hz hc) hS (hiPg x) c (by have:=uY hz;have:=zdM hx;unfold hiPg;omega) (uX A.2 hz) rfl
  exact ⟨b,m,o,J,G,s,rfl,A.1.1.1,A.1.1.2,D,K⟩
 exact ⟨b,m,o,J,G,s,rfl,I,Q⟩
def yx (f:Nat) (l:List UInt8):Ex × Nat × Nat :=
 if (xy l).2.2≠0 then (Xl,(xy l).2.1,(xy l).2.2) else
 match zh f 1 (xy l).1 with
 | none=>(Xl,0,99)
 | some res=>match y9 res with
  | .error a=>(Xl,a,6)
  | .ok y=>if 24<zN y then (Xl,0,7) else (y,0,0)
theorem Q2 {l:List UInt8} {x:Ex} {a e:Nat} (f:Nat) (hl:l.length≤4096) (h:Yo l x a e) (hd:(yx f l).2.2≠99):yx f l=(x,a,e):=by
 unfold Yo at h
 rw [zbz hl] at h
 unfold yx at hd ⊢
 by_cases hc:(xy l).2.2≠0
 ·rw [if_pos hc] at h ⊢
  obtain ⟨rfl,rfl,rfl⟩:=h
  rfl
 ·rw [if_neg hc] at h hd ⊢
  obtain ⟨z,res,s,o⟩:=h;cases hp:zh f 1 (xy l).1 with
  | none=>rw [hp] at hd;exact absurd rfl hd
  | some r2 =>
   obtain rfl:=X4 hp s;cases hw:y9 r2 with
   | error a=>rw [hw] at o;obtain ⟨rfl,rfl,rfl⟩:=o;simp only [hw]
   | ok y =>
    rw [hw] at o;simp only [hw] at o ⊢
    by_cases hdp:24<zN y
    ·rw [if_pos hdp] at o ⊢;obtain ⟨rfl,rfl,rfl⟩:=o;rfl
    ·rw [if_neg hdp] at o ⊢;obtain ⟨rfl,rfl,rfl⟩:=o;rfl
theorem vL:∀(f:Nat) (rs:List Rc) (fs:List Fc) (ts:List Tk) (r:PR Pg),Zy f rs fs ts=some r→Zy (f+1) rs fs ts=some r
 | 0,_,_,_,_,h=>by cases h
 | f+1,rs,fs,ts,r,h=>by
  rw [Zy] at h ⊢
  split at h
  ·rename_i o;rw [if_pos o];exact h
  ·rename_i o
   rw [if_neg o]
   split at h
   ·rename_i s
    rw [if_pos s];exact zD h (fun _=>vY) fun x us r hr=>vL f _ _ _ _ hr
   ·rename_i s
    rw [if_neg s]
    split at h
    ·rename_i y
     rw [if_pos y];exact zD h (fun _=>uQ) fun x us r hr=>vL f _ _ _ _ hr
    ·rename_i y
     rw [if_neg y];exact h
theorem Q3 {f k:Nat} {rs:List Rc} {fs:List Fc} {ts:List Tk} {r:PR Pg} (h:Zy f rs fs ts=some r):Zy (f+k) rs fs ts=some r:=by
 induction k with
 | zero=>exact h
 | succ k ih=>exact vL _ _ _ _ _ ih
theorem u6 {f f':Nat} {rs:List Rc} {fs:List Fc} {ts:List Tk} {r r':PR Pg} (h:Zy f rs fs ts=some r) (h':Zy f' rs fs ts=some r'):r=r':=by
 have a:=Q3 (k:=f') h;have b:=Q3 (k:=f) h';rw [Nat.add_comm] at b;exact Option.some.inj (a.symm.trans b)
def Vb (f:Nat) (l:List UInt8):Pg × Nat × Nat :=
 if (xy l).2.2≠0 then (Y0,(xy l).2.1,(xy l).2.2) else
 match Zy f [] [] (xy l).1 with
 | none=>(Y0,0,99)
 | some res=>match ZV res with
  | .error a=>(Y0,a,6)
  | .ok y=>if 24<depthFs y.funs then (Y0,0,7) else (y,0,0)
theorem Q4 {l:List UInt8} {x:Pg} {a e:Nat} (f:Nat) (hl:l.length≤4096) (h:Z4 l x a e) (hd:(Vb f l).2.2≠99):Vb f l=(x,a,e):=by
 unfold Z4 at h
 rw [zbz hl] at h
 unfold Vb at hd ⊢
 by_cases hc:(xy l).2.2≠0
 ·rw [if_pos hc] at h ⊢
  obtain ⟨rfl,rfl,rfl⟩:=h
  rfl
 ·rw [if_neg hc] at h hd ⊢
  obtain ⟨z,res,s,o⟩:=h;cases hp:Zy f [] [] (xy l).1 with
  | none=>rw [hp] at hd;exact absurd rfl hd
  | some r2 =>
   obtain rfl:=u6 hp s;cases hw:ZV r2 with
   | error a=>rw [hw] at o;obtain ⟨rfl,rfl,rfl⟩:=o;simp only [hw]
   | ok y =>
    rw [hw] at o;simp only [hw] at o ⊢
    by_cases hdp:24<depthFs y.funs
    ·rw [if_pos hdp] at o ⊢;obtain ⟨rfl,rfl,rfl⟩:=o;rfl
    ·rw [if_neg hdp] at o ⊢;obtain ⟨rfl,rfl,rfl⟩:=o;rfl
def zdN:Nat→Nat→List UInt8
 | 0,_=>[]
 | f+1,u=>if u<10 then [UInt8.ofNat (48+u)] else zdN f (u / 10)++[UInt8.ofNat (48+u % 10)]
theorem qO:∀(f u:Nat),u<f→Lib.decDigits u=zdN f u
 | 0,u,h=>by omega
 | f+1,u,h=>by
  rw [Lib.decDigits,zdN]
  by_cases h9:u<10
  ·rw [dif_pos h9,if_pos h9]
  ·rw [dif_neg h9,if_neg h9,qO f _ (by omega)]
def wrC (k n:Int) (s:List UInt8):List UInt8:=if k=2 then (if n<0 then 45::zdN (n.natAbs+1) n.natAbs else zdN (n.toNat+1) n.toNat) else if k=3 then yj s else s
theorem za7 (k n:Int) (s:List UInt8):vy k n s=wrC k n s:=by
 unfold vy wrC Lib.itoa
 rw [qO (n.natAbs+1) _ (by omega),qO (n.toNat+1) _ (by omega)]
def zeT (k n:Int) (s:List UInt8):Option (List UInt8) :=
 if (Zg (wrC k n s)).e=0∧((Zg (wrC k n s)).k:Int)=k∧(Zg (wrC k n s)).s=s∧((Zg (wrC k n s)).n:Int)=n then some (wrC k n s) else none
theorem zeU (k n:Int) (s:List UInt8):tokO k n s=zeT k n s:=by
 unfold tokO tkB zeT
 by_cases h:YO k n s
 ·have o:=h
  unfold YO at o
  rw [za7] at o;rw [if_pos h,if_pos rfl,if_pos o];show some (vy k n s)=_
  rw [za7]
 ·have o:=h
  unfold YO at o
  rw [za7] at o;rw [if_neg h,if_neg o]
  rfl
theorem zf4:tokO=zeT:=funext fun k=>funext fun n=>funext fun s=>zeU k n s
def prG (tok:Int→Int→List UInt8→Option (List UInt8)):Nat→Ez→Option (List UInt8)
 | 0,_=>none
 | d+1,.mk k s n kids _ =>
  if YN k s n kids.length=true then
   if k=1 then tok 2 n []
   else if k=2 then some (if n=0 then [102,97,108,115,101] else [116,114,117,101])
   else if k=3 then tok 3 0 s
   else if k=4 then tok 1 0 s
   else if k=5 then zc (tok 1 0 s) (zc (some [40]) (zc (rowO (kids.map (prG tok d)) kids.length) (some [41])))
   else if k=11 then zc (some [110,101,119,32]) (zc (tok 1 0 s) (zc (some [40]) (zc (rowO (kids.map (prG tok d)) kids.length) (some [41]))))
   else if k=10 then zc (some [91]) (zc (rowO (kids.map (prG tok d)) kids.length) (some [93]))
   else if k=6 then match kids with
    | a::_=>zc (some s) (kidO a 7 (prG tok d a))
    | _=>none
   else if k=7 then match kids with
    | a::b::_=>zc (kidO a (levelOf s) (prG tok d a)) (zc (some [32]) (zc (some s) (zc (some [32]) (kidO b (levelOf s+1) (prG tok d b)))))
    | _=>none
   else if k=8 then match kids with
    | a::b::_=>zc (kidO a 8 (prG tok d a)) (zc (some [91]) (zc (prG tok d b) (some [93])))
    | _=>none
   else if k=9 then match kids with
    | a::_=>zc (kidO a 8 (prG tok d a)) (zc (some [46]) (tok 1 0 s))
    | _=>none
   else none
  else none
theorem zdO:∀d,prE d=prG tokO d
 | 0=>rfl
 | d+1=>by
  funext x
  obtain ⟨k,s,n,kids,line⟩:=x
  unfold prE prG
  rw [zdO d]
  rfl
theorem Q5 (d:Nat):prE d=prG zeT d:=by rw [zdO,zf4]
def tx1:List UInt8:=[49,45,40,50,45,51,41]
def tx2:List UInt8:=[40,49,45,50,41,45,51]
def tx3:List UInt8:=[45,97,46,98,91,48,93]
def tx4:List UInt8:=[40,45,97,41,46,98]
def tx5:List UInt8:=[33,40,120,38,38,121,41]
def ty1:List UInt8:=[49,32,45,32,40,50,32,45,32,51,41]
def ty2:List UInt8:=[49,32,45,32,50,32,45,32,51]
def ty5:List UInt8:=[33,40,120,32,38,38,32,121,41]
def zgJ:List UInt8:=[49,43]
def txF:List UInt8:=[102,110,32,102,40,41,123,49,61,50,59,125]
def txP:List UInt8:=[114,101,99,111,114,100,32,80,123,120,58,105,110,116,125,10,102,110,32,102,40,97,58,91,105,110,116,93,41,58,105,110,116,123,114,101,116,117,114,110,32,97,91,48,93,59,125]
def tyP:List UInt8:=[114,101,99,111,114,100,32,80,32,123,32,120,58,32,105,110,116,32,125,10,102,110,32,102,40,97,58,32,91,105,110,116,93,41,58,32,105,110,116,32,123,10,114,101,116,117,114,110,32,97,91,48,93,59,10,125,10]
theorem cx1:yx 60 tx1=((yx 60 tx1).1,0,0)∧Vq (yx 60 tx1).1=true:=by constructor <;> kernel_rfl
theorem cx2:yx 60 tx2=((yx 60 tx2).1,0,0)∧Vq (yx 60 tx2).1=true:=by constructor <;> kernel_rfl
theorem cx3:yx 60 tx3=((yx 60 tx3).1,0,0)∧Vq (yx 60 tx3).1=true:=by constructor <;> kernel_rfl
theorem cx4:yx 60 tx4=((yx 60 tx4).1,0,0)∧Vq (yx 60 tx4).1=true:=by constructor <;> kernel_rfl
theorem cx5:yx 60 tx5=((yx 60 tx5).1,0,0)∧Vq (yx 60 tx5).1=true:=by constructor <;> kernel_rfl
theorem cp1:prR (prE 24 (VG (yx 60 tx1).1))=(ty1,0):=by rw [Q5];kernel_rfl
theorem cp2:prR (prE 24 (VG (yx 60 tx2).1))=(ty2,0):=by rw [Q5];kernel_rfl
theorem cp3:prR (prE 24 (VG (yx 60 tx3).1))=(tx3,0):=by rw [Q5];kernel_rfl
theorem cp4:prR (prE 24 (VG (yx 60 tx4).1))=(tx4,0):=by rw [Q5];kernel_rfl
theorem cp5:prR (prE 24 (VG (yx 60 tx5).1))=(ty5,0):=by rw [Q5];kernel_rfl
theorem cxE:yx 60 zgJ=(Xl,2,6):=by kernel_rfl
theorem cxF:Vb 60 txF=(Y0,8,6):=by kernel_rfl
theorem cxP:Vb 60 txP=((Vb 60 txP).1,0,0)∧za6 (Vb 60 txP).1=true:=by constructor <;> kernel_rfl
theorem cpP:prR (QS (pgz (Vb 60 txP).1))=(tyP,0):=by kernel_rfl
def YR (fl fa:Nat→Nat) (t:Tk):Tk:=⟨t.k,t.s,t.n,fl t.line,fa t.at0⟩
mutual
def Xu (fl:Nat→Nat):Ex→Ex
 | .mk k s n kids line=>.mk k s n (xw fl kids) (fl line)
def xw (fl:Nat→Nat):List Ex→List Ex
 | []=>[]
 | x::xs=>Xu fl x::xw fl xs
end
mutual
def UF (fl:Nat→Nat):St→St
 | .mk k s es b c line=>.mk k s (xw fl es) (yX fl b) (yX fl c) (fl line)
def yX (fl:Nat→Nat):List St→List St
 | []=>[]
 | x::xs=>UF fl x::yX fl xs
end
def zdP (fl:Nat→Nat) (x:Rc):Rc:=⟨x.name,x.fields,fl x.line⟩
def za8 (fl:Nat→Nat) (x:Fc):Fc:=⟨x.name,x.params,x.result,yX fl x.body,fl x.line⟩
def Ys (fl:Nat→Nat) (x:Pg):Pg:=⟨x.recs.map (zdP fl),x.funs.map (za8 fl)⟩
def xO {α:Type} (g:α→α) (fl fa:Nat→Nat):Option (PR α)→Option (PR α)
 | none=>none
 | some (.error a)=>some (.error (fa a))
 | some (.ok (x,us))=>some (.ok (g x,us.map (YR fl fa)))
theorem u7 (fl:Nat→Nat) (x:Ex):(Xu fl x).line=fl x.line:=by
 obtain ⟨k,s,n,kids,line⟩:=x;rw [Xu];rfl
theorem zdQ (fl:Nat→Nat) (x:Ex):(Xu fl x).kind=x.kind:=by
 obtain ⟨k,s,n,kids,line⟩:=x;rw [Xu];rfl
theorem zeV (fl:Nat→Nat) (a:List Ex) (x:Ex):xw fl (a++[x])=xw fl a++[Xu fl x]:=by
 induction a with
 | nil=>rfl
 | cons y ys ih=>rw [List.cons_append,xw,xw,ih];rfl
theorem zdR (fl:Nat→Nat) (a:List St) (x:St):yX fl (a++[x])=yX fl a++[UF fl x]:=by
 induction a with
 | nil=>rfl
 | cons y ys ih=>rw [List.cons_append,yX,yX,ih];rfl
theorem yV {fl fa:Nat→Nat} {ts:List Tk} (h:zg ts):zw (ts.map (YR fl fa))=YR fl fa (zw ts):=by
 obtain ⟨t,o,rfl⟩:=h.cons
 rfl
theorem Yg {fl fa:Nat→Nat} {ts:List Tk}:(ts.map (YR fl fa)).tail=ts.tail.map (YR fl fa):=by cases ts <;> rfl
theorem yw {fl fa:Nat→Nat} {t:Tk} {s:List UInt8}:zo (YR fl fa t) s=zo t s:=rfl
theorem zA {α β:Type} {fl fa:Nat→Nat} {x x':Option (PR α)} {k k':α→List Tk→Option (PR β)} {g:α→α} {g':β→β} (hx:x'=xO g fl fa x) (hk:∀y h,x=some (.ok (y,h))→k' (g y) (h.map (YR fl fa))=xO g' fl fa (k y h)):zm x' k'=xO g' fl fa (zm x k):=by
 subst hx;cases x with
 | none=>rfl
 | some x =>
  cases x with
  | error a=>rfl
  | ok p=>obtain ⟨y,h⟩:=p;exact hk y h rfl
theorem ZY {fl fa:Nat→Nat} {s:List UInt8} {ts:List Tk} (h:zg ts):zW s (ts.map (YR fl fa))=xO id fl fa (zW s ts):=by
 unfold zW
 rw [yV h,yw,Yg]
 split <;> rfl
theorem XJ {fl fa:Nat→Nat} {ts:List Tk} (h:zg ts):yo (ts.map (YR fl fa))=xO id fl fa (yo ts):=by
 unfold yo
 rw [yV h,Yg,show (YR fl fa (zw ts)).k=(zw ts).k from rfl]
 split <;> rfl
theorem zdS (fl fa:Nat→Nat) (f:Nat) :
  (∀least ts,zg ts→zh f least (ts.map (YR fl fa))=xO (Xu fl) fl fa (zh f least ts))∧(∀least e ts,zg ts→ZD f least (Xu fl e) (ts.map (YR fl fa))=xO (Xu fl) fl fa (ZD f least e ts)) ∧
  (∀ts,zg ts→Zp f (ts.map (YR fl fa))=xO (Xu fl) fl fa (Zp f ts))∧(∀e ts,zg ts→zE f (Xu fl e) (ts.map (YR fl fa))=xO (Xu fl) fl fa (zE f e ts))∧(∀ts,zg ts→zQ f (ts.map (YR fl fa))=xO (Xu fl) fl fa (zQ f ts)) ∧
  (∀pre ts,zg ts→yp f (xw fl pre) (ts.map (YR fl fa))=xO (xw fl) fl fa (yp f pre ts))∧(∀ts,zg ts→zK f (ts.map (YR fl fa))=xO (xw fl) fl fa (zK f ts)):=by
 induction f with
 | zero=>refine ⟨?_,?_,?_,?_,?_,?_,?_⟩ <;> intros <;> simp only [zh,ZD,Zp,zE,zQ,yp,zK,xO]
 | succ f ih =>
  obtain ⟨H,Q,N,I,T,J,O⟩:=ih;obtain ⟨G,U,W,Y,R,L,V⟩:=Ze f;have D:∀(t:Tk),(YR fl fa t).k=t.k∧(YR fl fa t).s=t.s∧(YR fl fa t).n=t.n∧(YR fl fa t).line=fl t.line:=fun t=>⟨rfl,rfl,rfl,rfl⟩
  refine ⟨fun least ts hE=>?_,fun least e ts hE=>?_,fun ts hE=>?_,fun e ts hE=>?_,fun ts hE=>?_,fun pre ts hE=>?_,fun ts hE=>?_⟩
  ·rw [zh,zh]
   by_cases c:6<least
   ·rw [if_pos c,if_pos c];exact N ts hE
   ·rw [if_neg c,if_neg c]
    exact zA (H _ ts hE) fun y us h=>Q _ y us (G _ _ _ _ h hE)
  ·rw [ZD,ZD,yV hE,Yg,(D _).1,(D _).2.1]
   by_cases c:(zw ts).k=4∧levelOf (zw ts).s=least
   ·rw [if_pos c,if_pos c]
    have o:=Z1 hE (by omega)
    refine zA (H _ _ o) fun y us h=>?_
    have:=Q least (.mk 7 (zw ts).s 0 [e,y] e.line) us (G _ _ _ _ h o)
    rw [Xu,xw,xw,xw] at this;rw [u7];exact this
   ·rw [if_neg c,if_neg c];rfl
  ·rw [Zp,Zp,yV hE,Yg,(D _).1,(D _).2.1,(D _).2.2.2]
   by_cases c:(zw ts).k=4∧((zw ts).s=[45]∨(zw ts).s=[33])
   ·rw [if_pos c,if_pos c]
    refine zA (N _ (Z1 hE (by omega))) fun y us h=>?_
    simp only [xO,Xu,xw]
   ·rw [if_neg c,if_neg c]
    exact zA (T ts hE) fun y us h=>I y us (R _ _ _ h hE)
  ·rw [zE,zE,yV hE,Yg,yw,yw]
   by_cases c:zo (zw ts) [91]=true
   ·rw [if_pos c,if_pos c]
    have o:=zy hE c;refine zA (H _ _ o) fun y us h=>?_
    have A:=G _ _ _ _ h o;refine zA (ZY A) fun z vs h2=>?_
    have:=I (.mk 8 [] 0 [e,y] e.line) vs (zU h2 A)
    rw [Xu,xw,xw,xw] at this;rw [u7];exact this
   rw [if_neg c,if_neg c]
   by_cases c:zo (zw ts) [46]=true
   ·rw [if_pos c,if_pos c]
    have o:=zy hE c;refine zA (XJ o) fun y us h=>?_
    have:=I (.mk 9 y 0 [e] e.line) us (ZM h o)
    rw [Xu,xw,xw] at this;rw [u7];exact this
   ·rw [if_neg c,if_neg c];rfl
  ·rw [zQ,zQ,yV hE,Yg,(D _).1,(D _).2.1,(D _).2.2.1,(D _).2.2.2,yw,yw,yw,yw]
   by_cases c:(zw ts).k=2
   ·rw [if_pos c,if_pos c];simp only [xO,Xu,xw]
   rw [if_neg c,if_neg c]
   by_cases c:(zw ts).k=3
   ·rw [if_pos c,if_pos c];simp only [xO,Xu,xw]
   rw [if_neg c,if_neg c]
   by_cases c:(zw ts).k=1
   ·rw [if_pos c,if_pos c]
    have o:=Z1 hE (by omega)
    rw [yV o,yw]
    by_cases d:zo (zw ts.tail) [40]=true
    ·rw [if_pos d,if_pos d]
     refine zA (O _ o) fun y us h=>?_
     simp only [xO,Xu]
    ·rw [if_neg d,if_neg d];simp only [xO,Xu,xw]
   rw [if_neg c,if_neg c]
   by_cases c:zo (zw ts) [116,114,117,101]=true
   ·rw [if_pos c,if_pos c];simp only [xO,Xu,xw]
   rw [if_neg c,if_neg c]
   by_cases c:zo (zw ts) [102,97,108,115,101]=true
   ·rw [if_pos c,if_pos c];simp only [xO,Xu,xw]
   rw [if_neg c,if_neg c]
   by_cases c:zo (zw ts) [110,101,119]=true
   ·rw [if_pos c,if_pos c]
    have o:=zy hE c;refine zA (XJ o) fun y us h=>?_
    have A:=ZM h o;refine zA (O _ A) fun z vs h2=>?_
    simp only [xO,Xu,id]
   rw [if_neg c,if_neg c]
   by_cases c:zo (zw ts) [91]=true
   ·rw [if_pos c,if_pos c]
    have o:=zy hE c;refine zA (J [] _ o) fun y us h=>?_
    have A:=L _ _ _ _ h o;refine zA (ZY A) fun z vs h2=>?_
    simp only [xO,Xu]
   rw [if_neg c,if_neg c];refine zA (ZY hE) fun z vs h2=>?_
   have A:=zU h2 hE;refine zA (H _ _ A) fun y us h=>?_
   have K:=G _ _ _ _ h A;exact zA (ZY K) fun z vs h4=>rfl
  ·rw [yp,yp]
   refine zA (H _ ts hE) fun y us h=>?_
   have o:=G _ _ _ _ h hE;rw [yV o,Yg,yw,←zeV]
   by_cases c:zo (zw us) [44]=true
   ·rw [if_pos c,if_pos c];exact J _ _ (zy o c)
   ·rw [if_neg c,if_neg c];rfl
  ·rw [zK,zK]
   refine zA (ZY hE) fun z vs h2=>?_
   have o:=zU h2 hE;rw [yV o,Yg,yw]
   by_cases c:zo (zw vs) [41]=true
   ·rw [if_pos c,if_pos c];rfl
   ·rw [if_neg c,if_neg c]
    refine zA (J [] _ o) fun y us h=>?_
    exact zA (ZY (L _ _ _ _ h o)) fun z vs h4=>rfl
theorem zdT (fl:Nat→Nat) (e:Ex):Yy (Xu fl e)=Yy e:=by unfold Yy;rw [zdQ]
theorem zeW (fl fa:Nat→Nat) (f:Nat) :
  (∀ts,zg ts→Zw f (ts.map (YR fl fa))=xO (UF fl) fl fa (Zw f ts))∧(∀ts,zg ts→zO f (ts.map (YR fl fa))=xO (yX fl) fl fa (zO f ts))∧(∀pre ts,zg ts→Zn f (yX fl pre) (ts.map (YR fl fa))=xO (yX fl) fl fa (Zn f pre ts)):=by
 induction f with
 | zero=>refine ⟨?_,?_,?_⟩ <;> intros <;> simp only [Zw,zO,Zn,xO]
 | succ f ih =>
  obtain ⟨L,H,I⟩:=ih;obtain ⟨J,K,O⟩:=XR f;have D:=(zdS fl fa f).1;have G:=(Ze f).1;have N:∀(t:Tk),(YR fl fa t).line=fl t.line:=fun t=>rfl
  refine ⟨fun ts hE=>?_,fun ts hE=>?_,fun pre ts hE=>?_⟩
  ·rw [Zw,Zw,yV hE,Yg,N,yw,yw,yw,yw]
   by_cases c:zo (zw ts) [108,101,116]=true
   ·rw [if_pos c,if_pos c]
    have o:=zy hE c;refine zA (XJ o) fun y us h=>?_
    have s:=ZM h o;refine zA (ZY s) fun z vs h2=>?_
    have A:=zU h2 s;refine zA (D _ _ A) fun e xs h3=>?_
    refine zA (ZY (G _ _ _ _ h3 A)) fun z ys h4=>?_
    simp only [xO,UF,xw,yX,id]
   rw [if_neg c,if_neg c]
   by_cases c:zo (zw ts) [105,102]=true
   ·rw [if_pos c,if_pos c]
    have o:=zy hE c;refine zA (D _ _ o) fun e us h=>?_
    have s:=G _ _ _ _ h o;refine zA (H _ s) fun b vs h2=>?_
    have A:=K _ _ _ h2 s;rw [yV A,Yg,yw]
    by_cases d:zo (zw vs) [101,108,115,101]=true
    ·rw [if_pos d,if_pos d]
     refine zA (H _ (zy A d)) fun c xs h3=>?_
     simp only [xO,UF,xw]
    ·rw [if_neg d,if_neg d]
     simp only [xO,UF,xw,yX]
   rw [if_neg c,if_neg c]
   by_cases c:zo (zw ts) [119,104,105,108,101]=true
   ·rw [if_pos c,if_pos c]
    have o:=zy hE c;refine zA (D _ _ o) fun e us h=>?_
    refine zA (H _ (G _ _ _ _ h o)) fun b vs h2=>?_
    simp only [xO,UF,xw,yX]
   rw [if_neg c,if_neg c]
   by_cases c:zo (zw ts) [114,101,116,117,114,110]=true
   ·rw [if_pos c,if_pos c]
    have o:=zy hE c;rw [yV o,Yg,yw]
    by_cases d:zo (zw ts.tail) [59]=true
    ·rw [if_pos d,if_pos d]
     simp only [xO,UF,xw,yX]
    ·rw [if_neg d,if_neg d]
     refine zA (D _ _ o) fun e us h=>?_
     refine zA (ZY (G _ _ _ _ h o)) fun z ys h4=>?_
     simp only [xO,UF,xw,yX]
   rw [if_neg c,if_neg c];refine zA (D _ _ hE) fun e us h=>?_
   have s:=G _ _ _ _ h hE;rw [yV s,Yg,yw,zdT]
   by_cases c:zo (zw us) [61]=true
   ·rw [if_pos c,if_pos c]
    by_cases d:Yy e=true
    ·rw [if_pos d,if_pos d]
     have A:=zy s c;refine zA (D _ _ A) fun e2 vs h3=>?_
     refine zA (ZY (G _ _ _ _ h3 A)) fun z ys h4=>?_
     simp only [xO,UF,xw,yX]
    ·rw [if_neg d,if_neg d];rfl
   ·rw [if_neg c,if_neg c]
    refine zA (ZY s) fun z ys h4=>?_
    simp only [xO,UF,xw,yX]
  ·rw [zO,zO]
   exact zA (ZY hE) fun z us h=>I [] us (zU h hE)
  ·rw [Zn,Zn,yV hE,Yg,yw]
   by_cases c:zo (zw ts) [125]=true
   ·rw [if_pos c,if_pos c];rfl
   ·rw [if_neg c,if_neg c]
    refine zA (L _ hE) fun x us h=>?_
    rw [←zdR];exact I _ _ (J _ _ _ h hE)
def mvX {α:Type} (fl fa:Nat→Nat):PR α→PR α
 | .error a=>.error (fa a)
 | .ok (x,us)=>.ok (x,us.map (YR fl fa))
theorem zcz {fl fa:Nat→Nat} {n:Nat}:∀{ts:List Tk},zg ts→Z0 n (ts.map (YR fl fa))=(match Z0 n ts with | .error a=>.error (fa a) | .ok us=>.ok (us.map (YR fl fa))):=by
 induction n with
 | zero=>intro ts _;rfl
 | succ n ih =>
  intro ts h;rw [Z0,Z0,yV h,Yg,yw]
  by_cases c:zo (zw ts) [93]=true
  ·rw [if_pos c,if_pos c];exact ih (zy h c)
  ·rw [if_neg c,if_neg c];rfl
theorem Ua {fl fa:Nat→Nat}:∀(ts:List Tk) (k:Nat),zg ts→ZW k (ts.map (YR fl fa))=mvX fl fa (ZW k ts)
 | [],k,hE=>absurd hE (by simp [zg])
 | t::ts,k,hE=>by
  rw [List.map_cons,ZW,ZW,yw]
  by_cases c:zo t [91]=true
  ·rw [if_pos c,if_pos c];exact Ua ts (k+1) (hE.tail (zi c))
  rw [if_neg c,if_neg c,show (YR fl fa t).k=t.k from rfl]
  by_cases c:t.k=1
  ·rw [if_pos c,if_pos c,zcz (hE.tail (by omega))]
   cases Z0 k ts <;> rfl
  ·rw [if_neg c,if_neg c];rfl
theorem zcA {fl fa:Nat→Nat} {ts:List Tk} (hE:zg ts):yq (ts.map (YR fl fa))=mvX fl fa (yq ts):=by
 unfold yq
 rw [yV hE,show (YR fl fa (zw ts)).k=(zw ts).k from rfl]
 by_cases c:(zw ts).k=1
 ·have h:=Z1 hE (by omega)
  rw [if_pos c,if_pos c,Yg,yV h,yw,Yg]
  by_cases d:zo (zw ts.tail) [58]=true
  ·rw [if_pos d,if_pos d,Ua _ _ (zy h d)]
   cases ZW 0 ts.tail.tail <;> rfl
  ·rw [if_neg d,if_neg d];rfl
 ·rw [if_neg c,if_neg c];rfl
theorem VH {fl fa:Nat→Nat}:∀(f:Nat) (pre:List Pm) (ts:List Tk),zg ts→zZ f pre (ts.map (YR fl fa))=xO id fl fa (zZ f pre ts)
 | 0,_,_,_=>rfl
 | f+1,pre,ts,hE=>by
  rw [zZ,zZ,zcA hE];cases hp:yq ts with
  | error a=>rfl
  | ok q =>
   obtain ⟨p,o⟩:=q;have h:=(YI hp hE).1;simp only [mvX];rw [yV h,yw,Yg]
   by_cases c:zo (zw o) [44]=true
   ·rw [if_pos c,if_pos c];exact VH f _ _ (zy h c)
   ·rw [if_neg c,if_neg c];rfl
theorem zeX {fl fa:Nat→Nat} {f:Nat} {ts:List Tk} (hE:zg ts):yY f (ts.map (YR fl fa))=xO id fl fa (yY f ts):=by
 unfold yY
 refine zA (ZY hE) fun z us h=>?_
 have o:=zU h hE;rw [yV o,yw,Yg]
 by_cases c:zo (zw us) [41]=true
 ·rw [if_pos c,if_pos c];rfl
 ·rw [if_neg c,if_neg c]
  refine zA (VH _ _ _ o) fun y vs h2=>?_
  exact zA (ZY (yS h2 o)) fun z ys h4=>rfl
theorem zf7 {fl fa:Nat→Nat} {ts:List Tk} (hE:zg ts):Xs (ts.map (YR fl fa))=xO id fl fa (Xs ts):=by
 unfold Xs
 rw [yV hE,yw,Yg]
 by_cases c:zo (zw ts) [58]=true
 ·rw [if_pos c,if_pos c,Ua _ _ (zy hE c)]
  cases ZW 0 ts.tail <;> rfl
 ·rw [if_neg c,if_neg c];rfl
theorem zeY {fl fa:Nat→Nat} {f line:Nat} {ts:List Tk} (hE:zg ts):ye f (fl line) (ts.map (YR fl fa))=xO (za8 fl) fl fa (ye f line ts):=by
 unfold ye
 refine zA (XJ hE) fun s us h=>?_
 have y:=ZM h hE;refine zA (zeX y) fun l vs h2=>?_
 have o:=xg h2 y;refine zA (zf7 o) fun t xs h3=>?_
 refine zA ((zeW fl fa f).2.1 _ (U7 h3 o)) fun b ys h4=>?_
 rfl
theorem zcB {fl fa:Nat→Nat} {f line:Nat} {ts:List Tk} (hE:zg ts):Zx f (fl line) (ts.map (YR fl fa))=xO (zdP fl) fl fa (Zx f line ts):=by
 unfold Zx
 refine zA (XJ hE) fun s us h=>?_
 have y:=ZM h hE;refine zA (ZY y) fun z vs h2=>?_
 have o:=zU h2 y;refine zA (VH _ _ _ o) fun l xs h3=>?_
 exact zA (ZY (yS h3 o)) fun z ys h4=>rfl
theorem uk (fl fa:Nat→Nat):∀(f:Nat) (rs:List Rc) (fs:List Fc) (ts:List Tk),zg ts→Zy f (rs.map (zdP fl)) (fs.map (za8 fl)) (ts.map (YR fl fa))=xO (Ys fl) fl fa (Zy f rs fs ts)
 | 0,_,_,_,_=>rfl
 | f+1,rs,fs,ts,hE=>by
  rw [Zy,Zy,yV hE,Yg,yw,yw,show (YR fl fa (zw ts)).k=(zw ts).k from rfl,show (YR fl fa (zw ts)).line=fl (zw ts).line from rfl]
  by_cases c:(zw ts).k=0
  ·rw [if_pos c,if_pos c];rfl
  rw [if_neg c,if_neg c]
  by_cases c:zo (zw ts) [114,101,99,111,114,100]=true
  ·rw [if_pos c,if_pos c]
   have o:=zy hE c;refine zA (zcB o) fun x us h=>?_
   have:=uk fl fa f (rs++[x]) fs us (Yn h o)
   rw [List.map_append] at this;exact this
  rw [if_neg c,if_neg c]
  by_cases c:zo (zw ts) [102,110]=true
  ·rw [if_pos c,if_pos c]
   have o:=zy hE c;refine zA (zeY o) fun x us h=>?_
   have:=uk fl fa f rs (fs++[x]) us (xh h o)
   rw [List.map_append] at this;exact this
  ·rw [if_neg c,if_neg c];rfl
end Go.Proofs.YtpejpbbdgblbeaaGreatDoor
