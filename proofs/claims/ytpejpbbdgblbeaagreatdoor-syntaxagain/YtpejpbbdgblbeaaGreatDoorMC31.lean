import Derived.Test.YtpejpbbdgblbeaaGreatDoorMC30
import Derived.Test.YtpejpbbdgblbeaaGreatDoorMC12
import Derived.Test.YtpejpbbdgblbeaaGreatDoorSDMath
import Derived.Test.YtpejpbbdgblbeaaGreatDoorMC39
import Derived.Test.YtpejpbbdgblbeaaGreatDoorMC46
import Derived.Test.YtpejpbbdgblbeaaGreatDoorMC17
import Derived.Test.YtpejpbbdgblbeaaGreatDoorSDSingle
import Derived.Test.YtpejpbbdgblbeaaGreatDoorMC45
import Derived.Test.YtpejpbbdgblbeaaGreatDoorXRef7
namespace Go.Proofs.YtpejpbbdgblbeaaGreatDoor
open Go.RowKit Go.Shelf
set_option maxHeartbeats 16000000
set_option maxRecDepth 100000
theorem Q0 (l:List UInt8) (w:World) (ht:yI w) (hl:ZC w) (he:xp w) :
  Calls Tryz.prog 8 #[.string (zb l)] w fun e w' =>
   ∃(x:Pg) (at0 h:Nat) (v:Value),e=.returned (.tuple #[v,.int .i64 at0,.int .i64 h])∧Z2 l x at0 h∧Yl w.heap.size w' x v∧Below w.heap.size w w':=by
 have N:Below w.heap.size w (w.alloc Xq):=(Below.refl w.heap.size w).alloc (Nat.le_refl _) _;have R:=ziP l (w.alloc Xq) (ht.below N (Nat.le_refl _)) (fun j v hj=>zl (hl j v hj) _) (zl he _)
 go_enter Tryz.func8,Tryz.ntmps8
 go_wp2_with fail
 refine R.mono ?_;clear R;rintro e w1 ⟨x,at0,h,v,rfl,Q,J,o⟩;obtain ⟨G,A,y,D,H,z,rfl⟩:=J.agg;have O:(w.alloc Xq).heap.size=w.heap.size+1:=by simp
 rw [O] at J o;have L:w1.heap[w.heap.size]?=some Xq:=(o.block w.heap.size (by omega)).trans (World.alloc_heap_new w _)
 obtain ⟨q0,Z,qf⟩:=ZA L;obtain ⟨T,V⟩:=xD L (.slice G A y) (.slice D H z);have I:Below w.heap.size w w1:=N.trans (o.mono (by omega))
 have U:Hid (Below w.heap.size w (vk w1 w.heap.size (.slice G A y) (.slice D H z))) :=
  (I.setCell (p:=⟨w.heap.size,0,none⟩) (by simp) _).setCell (p:=⟨w.heap.size,1,none⟩) (by simp) _
 have Y:Hid (Yl w.heap.size (vk w1 w.heap.size (.slice G A y) (.slice D H z)) x (.agg #[.slice G A y,.slice D H z])) :=
  Yl.mono (Yl.kept J (w':=vk w1 w.heap.size (.slice G A y) (.slice D H z)) (by simp) fun j hj _=>uh _ _ _ _ (by omega)) (by omega)
 have W:Hid (Z2 l x at0 h):=Q;clear N I J o Q L ht hl he;go_wp2
 exact bodyPost_ret (v:=.tuple #[.agg #[.slice G A y,.slice D H z],.int .i64 at0,.int .i64 h]) (by simp [results,Tryz.results8,go_sem,T,V]) rfl ⟨x,at0,h,_,rfl,W.out,Y.out,U.out⟩
theorem zhw (l:List UInt8) (w:World) (ht:yI w) (hl:ZC w) (he:xp w) :
  Calls Tryz.prog 19 #[.string (zb l)] w fun e w' =>
   ∃(x:Ex) (at0 h:Nat) (v:Value),e=.returned (.tuple #[v,.int .i64 at0,.int .i64 h])∧YB l x at0 h∧ZL w.heap.size w' x v∧Below w.heap.size w w':=by
 have I:Below w.heap.size w (w.alloc Zz):=(Below.refl w.heap.size w).alloc (Nat.le_refl _) _;have N:=ziO l (w.alloc Zz) (ht.below I (Nat.le_refl _)) (fun j v hj=>zl (hl j v hj) _) (zl he _)
 go_enter Tryz.func19,Tryz.ntmps19
 go_wp2_with fail
 refine N.mono ?_;clear N;rintro e w1 ⟨x,at0,h,v,rfl,L,G,o⟩;obtain ⟨a,b,c,z,A,y,k,rfl⟩:=G.agg;have J:(w.alloc Zz).heap.size=w.heap.size+1:=by simp
 rw [J] at G o;have H:w1.heap[w.heap.size]?=some Zz:=(o.block w.heap.size (by omega)).trans (World.alloc_heap_new w _)
 obtain ⟨q0,Z,q2,q3,q4,qf⟩:=zU H;obtain ⟨O,U,T,W,R⟩:=zX H (.int .i64 a) (.string b) (.int .i64 c) (.slice z A y) (.int .i64 k);have D:Below w.heap.size w w1:=I.trans (o.mono (by omega))
 have Q:Hid (Below w.heap.size w (set5 w1 w.heap.size (.int .i64 a) (.string b) (.int .i64 c) (.slice z A y) (.int .i64 k))) :=
  ((((D.setCell (p:=⟨w.heap.size,0,none⟩) (by simp) _).setCell (p:=⟨w.heap.size,1,none⟩) (by simp) _).setCell (p:=⟨w.heap.size,2,none⟩) (by simp) _).setCell (p:=⟨w.heap.size,3,none⟩) (by simp) _).setCell (p:=⟨w.heap.size,4,none⟩) (by simp) _
 have Y:Hid (ZL w.heap.size (set5 w1 w.heap.size (.int .i64 a) (.string b) (.int .i64 c) (.slice z A y) (.int .i64 k)) x (.agg #[.int .i64 a,.string b,.int .i64 c,.slice z A y,.int .i64 k])) :=
  ZL.mono (ZL.kept G (w':=set5 w1 w.heap.size (.int .i64 a) (.string b) (.int .i64 c) (.slice z A y) (.int .i64 k)) (by simp) fun j hj _=>zu _ _ _ _ _ _ _ (by omega)) (by omega)
 have V:Hid (YB l x at0 h):=L;clear I D G o L H ht hl he;go_wp2
 exact bodyPost_ret (v:=.tuple #[.agg #[.int .i64 a,.string b,.int .i64 c,.slice z A y,.int .i64 k],.int .i64 at0,.int .i64 h]) (by simp [results,Tryz.results19,go_sem,O,U,T,W,R]) rfl ⟨x,at0,h,_,rfl,V.out,Y.out,Q.out⟩
mutual
def Xr:Ex→Ez
 | .mk k s n kids line=>.mk k s n (ye kids) line
def ye:List Ex→List Ez
 | []=>[]
 | x::xs=>Xr x::ye xs
end
theorem VR (l:List Ex):ye l=l.map Xr:=by
 induction l with
 | nil=>rfl
 | cons x xs ih=>rw [ye,ih];rfl
mutual
def VY:Ex→Bool
 | .mk _ s n kids _=>decide (s.length≤100000000)&&decide (-9223372036854775808≤n)&&decide (n≤9223372036854775807)&&UU kids
def UU:List Ex→Bool
 | []=>true
 | x::xs=>VY x&&UU xs
end
theorem zc2 {l:List Ex} (h:UU l=true):∀{i:Nat} {x:Ex},l[i]?=some x→VY x=true:=by
 induction l with
 | nil=>intro i x o;simp at o
 | cons y ys ih =>
  intro i x o;rw [UU,Bool.and_eq_true] at h;cases i with
  | zero=>simp only [List.getElem?_cons_zero,Option.some.injEq] at o;subst o;exact h.1
  | succ i=>exact ih h.2 (by simpa using o)
theorem zZ.ez {S:Nat→Prop} {B:Nat} {w:World} {x:Ex} {v:Value} (h:zZ S w x v) (hS:∀k,S k→k<w.heap.size→k<B) (hok:VY x=true):Zy B w (Xr x) v:=by
 induction h with
 | leaf k s n line =>
  rw [VY] at hok;simp only [Bool.and_eq_true,decide_eq_true_eq] at hok;exact Zy.mk (k:Int) s n [] (line:Int) none 0 0 0 [] hok.1.1.1 hok.1.1.2 hok.1.2 (fun h=>absurd rfl h) rfl (Nat.le_refl _) (Nat.zero_le _) (fun j u hj=>by simp at hj) (fun c hc=>by simp at hc) (fun j x c hx=>by simp at hx)
 | node k s n kids line g cap us hne hlen hB hg hc hm hcell hfive _ ih =>
  rw [VY] at hok;simp only [Bool.and_eq_true,decide_eq_true_eq] at hok;have e:(ye kids).length=kids.length:=by rw [VR,List.length_map]
  have:=Zy.mk (B:=B) (w:=w) (k:Int) s n (ye kids) (line:Int) (some ⟨g,0,none⟩) cap g 0 us hok.1.1.1 hok.1.1.2 hok.1.2 (fun _=>⟨rfl,hS g hB hg,hg⟩) (by rw [e];exact hlen) (by rw [e];exact hc) hm (fun j u hj=>by rw [Nat.zero_add];exact hcell j u hj) hfive (fun j x c hx hc'=>by
   rw [VR,List.getElem?_map] at hx;cases hy:kids[j]? with
   | none=>rw [hy] at hx;simp at hx
   | some y =>
    rw [hy] at hx;simp only [Option.map_some,Option.some.injEq] at hx;subst hx
    exact ih j y c hy hc' (zc2 hok.2 hy))
  rw [e] at this;exact this
mutual
def uS:St→Sz
 | .mk k s es body els line=>.mk k s (ye es) (yF body) (yF els) line
def yF:List St→List Sz
 | []=>[]
 | x::xs=>uS x::yF xs
end
theorem VS (l:List St):yF l=l.map uS:=by
 induction l with
 | nil=>rfl
 | cons x xs ih=>rw [yF,ih];rfl
mutual
def okS:St→Bool
 | .mk _ s es body els _=>decide (s.length≤100000000)&&UU es&&vO body&&vO els
def vO:List St→Bool
 | []=>true
 | x::xs=>okS x&&vO xs
end
theorem UV {l:List St} (h:vO l=true):∀{i:Nat} {x:St},l[i]?=some x→okS x=true:=by
 induction l with
 | nil=>intro i x o;simp at o
 | cons y ys ih =>
  intro i x o;rw [vO,Bool.and_eq_true] at h;cases i with
  | zero=>simp only [List.getElem?_cons_zero,Option.some.injEq] at o;subst o;exact h.1
  | succ i=>exact ih h.2 (by simpa using o)
mutual
def hiS:St→Nat
 | .mk _ _ _ body els _=>1+max (uT body) (uT els)
def uT:List St→Nat
 | []=>0
 | x::xs=>max (hiS x) (uT xs)
end
theorem UW {l:List St}:∀{i:Nat} {x:St},l[i]?=some x→hiS x≤uT l:=by
 induction l with
 | nil=>intro i x h;simp at h
 | cons y ys ih =>
  intro i x h;rw [uT];cases i with
  | zero=>simp only [List.getElem?_cons_zero,Option.some.injEq] at h;subst h;omega
  | succ i=>have:=ih (i:=i) (x:=x) (by simpa using h);omega
theorem Q1 {α β:Type} {P:β→List Value→Prop} {f:α→β} {sz B g cap:Nat} {w:World} {l:List α} {us:List (List Value)} (hlen:us.length=l.length) (hB:g<B) (hg:g<w.heap.size) (hc:l.length≤cap) (hm:cap≤maxLen) (hcell:∀j u,us.flatten[j]?=some u→w.cell? ⟨g,j,none⟩=some u) (hw:∀c∈us,c.length=sz)
  (hk:∀(j:Nat) (x:α) (c:List Value),l[j]?=some x→us[j]?=some c→P (f x) c):Zr P sz B w (l.map f) (some ⟨g,0,none⟩) l.length cap:=by
 refine ⟨by rw [List.length_map],by rw [List.length_map];exact hc,hm,fun i x hx=>?_⟩
 rw [List.getElem?_map] at hx;cases hy:l[i]? with
 | none=>rw [hy] at hx;simp at hx
 | some y =>
  rw [hy] at hx;simp only [Option.map_some,Option.some.injEq] at hx;subst hx;have A:i<l.length:=(List.getElem?_eq_some_iff.1 hy).1;obtain ⟨c,h⟩:∃c,us[i]?=some c:=⟨us[i]'(by omega),List.getElem?_eq_getElem (by omega)⟩
  have o:c.length=sz:=hw c (List.mem_of_getElem? h);refine ⟨g,0,c,rfl,hB,hg,o,hk i y c hy h,fun j u hj=>?_⟩
  have z:j<sz:=by rw [←o];exact (List.getElem?_eq_some_iff.1 hj).1
  rw [Nat.zero_add];exact hcell _ _ ((zhr hw h z).trans hj)
theorem UX {α β:Type} {P:β→List Value→Prop} {f:α→β} {sz B:Nat} {w:World}:Zr P sz B w (([]:List α).map f) none 0 0:=⟨rfl,Nat.le_refl _,Nat.zero_le _,fun i x hx=>by simp at hx⟩
theorem zK.rowZ {S:Nat→Prop} {B:Nat} {w:World} {l:List Ex} {v:Value} (h:zK S w l v) (hS:∀k,S k→k<w.heap.size→k<B) (hok:UU l=true):∃b m cap,v=.slice b m cap∧Zr (QR B w) 5 B w (ye l) b m cap:=by
 rw [VR];rcases h with ⟨rfl,rfl⟩ | ⟨g,cap,J,rfl,_,y,D,z,H,G,o,A,I⟩
 ·exact ⟨none,0,0,rfl,UX⟩
 ·exact ⟨_,_,_,rfl,Q1 y (hS g D z) z H G o A fun j x c hx hc'=>zZ.ez (I j x c hx hc') hS (zc2 hok hx)⟩
theorem xQ.rowZ {S:Nat→Prop} {B f:Nat} {w:World} {l:List St} {v:Value} {g cap:Nat} {us:List (List Value)} (h:xQ S w l v g cap us) (hS:∀k,S k→k<w.heap.size→k<B)
  (hk:∀(j:Nat) (x:St) (c:List Value),l[j]?=some x→us[j]?=some c→ZW B w f (uS x) c):∃b m cap,v=.slice b m cap∧Zr (ZW B w f) 6 B w (yF l) b m cap:=by
 rw [VS];rcases h with ⟨rfl,rfl⟩ | ⟨rfl,_,y,D,z,H,G,o,A⟩
 ·exact ⟨none,0,0,rfl,UX⟩
 ·exact ⟨_,_,_,rfl,Q1 y (hS g D z) z H G o A hk⟩
theorem yv.sz {S:Nat→Prop} {B:Nat} {w:World} {x:St} {v:Value} (h:yv S w x v) (hS:∀k,S k→k<w.heap.size→k<B):∀(f:Nat) (c:List Value),hiS x≤f→okS x=true→v=.agg c.toArray→ZW B w f (uS x) c:=by
 induction h with
 | mk k s es body els line ve vb vl gb cb gl cl ub ul he hbr hbk hl hlk ih1 ih2 =>
  intro f c N o T;rw [hiS] at N;rw [okS] at o;simp only [Bool.and_eq_true,decide_eq_true_eq] at o;obtain ⟨f,rfl⟩:∃f',f=f'+1:=⟨f-1,by omega⟩
  obtain ⟨H,G,L,rfl,R⟩:=he.rowZ hS o.1.1.2;obtain ⟨D,J,y,rfl,O⟩:=hbr.rowZ (f:=f) hS fun j x c hx hc=>ih1 j x c hx hc f c (by have:=UW hx;omega) (UV o.1.2 hx) rfl
  obtain ⟨bl,I,z,rfl,Q⟩:=hl.rowZ (f:=f) hS fun j x c hx hc=>ih2 j x c hx hc f c (by have:=UW hx;omega) (UV o.2 hx) rfl
  have A:c=[.int .i64 k,.string (zb s),.slice H G L,.slice D J y,.slice bl I z,.int .i64 line]:=by
   have:=congrArg (fun v=>match v with | .agg a=>a.toList | _=>[]) T
   simpa using this.symm
  exact ⟨H,G,L,D,J,y,bl,I,z,A,o.1.1.1,R,O,Q⟩
def rcz (x:Rc):Rz:=⟨x.name,x.fields,x.line⟩
def fcz (x:Fc):Fz:=⟨x.name,x.params,x.result,yF x.body,x.line⟩
def VT (x:Pg):Pz:=⟨x.recs.map rcz,x.funs.map fcz⟩
def Q2 (l:List Pm):Bool:=l.all fun p=>decide (p.1.length≤100000000)&&decide (p.2.length≤100000000)
def zfq (x:Rc):Bool:=decide (x.name.length≤100000000)&&Q2 x.fields
def zfr (x:Fc):Bool:=decide (x.name.length≤100000000)&&decide (x.result.length≤100000000)&&Q2 x.params&&vO x.body
def zcl (x:Pg):Bool:=x.recs.all zfq&&x.funs.all zfr
def xM (x:Pg):Nat:=(x.funs.map fun y=>uT y.body).foldr max 0
theorem zfs {l:List Fc} {y:Fc} (h:y∈l):uT y.body≤(l.map fun y=>uT y.body).foldr max 0:=by
 induction l with
 | nil=>simp at h
 | cons z zs ih =>
  rw [List.map_cons,List.foldr_cons];rcases List.mem_cons.1 h with rfl | h
  ·omega
  ·have:=ih h;omega
theorem XS.rowZ {α β:Type} {E:(Nat→Prop)→World→α→List Value→Prop} {P:β→List Value→Prop} {f:α→β} {sz:Nat} {S:Nat→Prop} {B:Nat} {w:World} {l:List α} {v:Value} (h:XS E sz S w l v) (hS:∀k,S k→k<w.heap.size→k<B)
  (hk:∀(x:α) (c:List Value),x∈l→E S w x c→P (f x) c):∃b m cap,v=.slice b m cap∧Zr P sz B w (l.map f) b m cap:=by
 rcases h with ⟨rfl,rfl⟩ | ⟨g,cap,J,rfl,_,y,G,A,I,H,o,D,z⟩
 ·exact ⟨none,0,0,rfl,UX⟩
 ·exact ⟨_,_,_,rfl,Q1 y (hS g G A) A I H o D fun j x c hx hc'=>hk x c (List.mem_of_getElem? hx) (z j x c hx hc')⟩
theorem UI.rowZ {S:Nat→Prop} {B:Nat} {w:World} {l:List Pm} {v:Value} (h:UI S w l v) (hS:∀k,S k→k<w.heap.size→k<B) (hok:Q2 l=true):∃b m cap,v=.slice b m cap∧Zr PmZ 2 B w l b m cap:=by
 have:=XS.rowZ (P:=PmZ) (f:=fun x:Pm=>(x:List UInt8 × List UInt8)) h hS fun x c hx hc=>by
  have o:=List.all_eq_true.1 hok x hx;simp only [Bool.and_eq_true,decide_eq_true_eq] at o;exact ⟨hc,o.1,o.2⟩
 simpa using this
theorem xL.pz {S:Nat→Prop} {B:Nat} {w:World} {x:Pg} {v:Value} (h:xL S w x v) (hS:∀k,S k→k<w.heap.size→k<B) (hok:zcl x=true):xJ B w (xM x) (VT x) v:=by
 obtain ⟨W,vf,rfl,U,T⟩:=h
 unfold zcl at hok
 rw [Bool.and_eq_true] at hok
 obtain ⟨b,m,o,rfl,I⟩:=U.rowZ (P:=Xk B w) (f:=rcz) hS fun x c hx hc=>by
  have A:=List.all_eq_true.1 hok.1 x hx
  unfold zfq at A
  simp only [Bool.and_eq_true,decide_eq_true_eq] at A;obtain ⟨V,rfl,J⟩:=hc;obtain ⟨b,m,o,rfl,G⟩:=UI.rowZ J hS A.2;exact ⟨b,m,o,rfl,A.1,G⟩
 obtain ⟨L,N,D,rfl,R⟩:=T.rowZ (P:=Xl B w (xM x)) (f:=fcz) hS fun y c hx hc=>by
  have A:=List.all_eq_true.1 hok.2 y hx
  unfold zfr at A
  simp only [Bool.and_eq_true,decide_eq_true_eq] at A;obtain ⟨V,vb,rfl,J,O⟩:=hc;obtain ⟨b,m,o,rfl,G⟩:=UI.rowZ J hS A.1.2;obtain ⟨g,Y,Z,I,Q⟩:=O;obtain ⟨L,N,D,rfl,H⟩:=I.rowZ (f:=xM x) hS fun j z c hz hc=>yv.sz (Q j z c hz hc) hS (xM x) c (by have:=UW hz;have:=zfs hx;unfold xM;omega) (UV A.2 hz) rfl
  exact ⟨b,m,o,L,N,D,rfl,A.1.1.1,A.1.1.2,G,H⟩
 exact ⟨b,m,o,L,N,D,rfl,I,R⟩
def Ue (t:Tk):Prop:=t.s.length≤100000000∧t.n≤9223372036854775807
theorem Ue.hd {ts:List Tk} (h:∀t∈ts,Ue t):Ue (zv ts):=by
 cases ts with
 | nil=>exact ⟨by simp [zv],by simp [zv]⟩
 | cons t us=>exact h t (List.mem_cons_self ..)
theorem XO {k:Nat} {s:List UInt8} {n:Int} {kids:List Ex} {line:Nat} (hs:s.length≤100000000) (h0:-9223372036854775808≤n) (h1:n≤9223372036854775807) (hk:UU kids=true):VY (.mk k s n kids line)=true:=by
 rw [VY]
 simp [hs,h0,h1,hk]
theorem xS {x:Ex} (h:VY x=true):UU [x]=true:=by simp [UU,h]
theorem Q3 {x y:Ex} (h:VY x=true) (g:VY y=true):UU [x,y]=true:=by simp [UU,h,g]
theorem zft {l:List Ex} {x:Ex} (h:UU l=true) (g:VY x=true):UU (l++[x])=true:=by
 induction l with
 | nil=>exact xS g
 | cons y ys ih =>
  rw [UU,Bool.and_eq_true] at h;rw [List.cons_append,UU,h.1,ih h.2];rfl
theorem vx {s:List UInt8} {ts us:List Tk} (h:Z3 ts=some (.ok (s,us))):s=(zv ts).s:=by
 unfold Z3 at h
 split at h
 ·simp only [Option.some.injEq,Except.ok.injEq,Prod.mk.injEq] at h
  exact h.1.symm
 ·cases h
theorem zbc (f:Nat) :
  (∀least ts x us,zf f least ts=some (.ok (x,us))→(∀t∈ts,Ue t)→VY x=true)∧(∀least e ts x us,Zp f least e ts=some (.ok (x,us))→(∀t∈ts,Ue t)→VY e=true→VY x=true) ∧
  (∀ts x us,Zg f ts=some (.ok (x,us))→(∀t∈ts,Ue t)→VY x=true)∧(∀e ts x us,zw f e ts=some (.ok (x,us))→(∀t∈ts,Ue t)→VY e=true→VY x=true)∧(∀ts x us,zC f ts=some (.ok (x,us))→(∀t∈ts,Ue t)→VY x=true) ∧
  (∀pre ts x us,ZY f pre ts=some (.ok (x,us))→(∀t∈ts,Ue t)→UU pre=true→UU x=true)∧(∀ts x us,zA f ts=some (.ok (x,us))→(∀t∈ts,Ue t)→UU x=true):=by
 induction f with
 | zero=>refine ⟨?_,?_,?_,?_,?_,?_,?_⟩ <;> intros <;> simp_all [zf,Zp,Zg,zw,zC,ZY,zA]
 | succ f ih =>
  obtain ⟨I,W,V,T,i5,O,Z⟩:=ih;obtain ⟨L,j2,j3,j4,j5,j6,j7⟩:=vu (P:=Ue) f;refine ⟨fun least ts x us h hE=>?_,fun least e ts x us h hE he=>?_,fun ts x us h hE=>?_,fun e ts x us h hE he=>?_,fun ts x us h hE=>?_,fun pre ts x us h hE he=>?_,fun ts x us h hE=>?_⟩
  ·rw [zf] at h
   split at h
   ·exact V _ _ _ h hE
   ·obtain ⟨y,D,o,A⟩:=za h
    exact W _ _ _ _ _ A (L _ _ _ _ o hE) (I _ _ _ _ o hE)
  ·rw [Zp] at h
   split at h
   ·obtain ⟨y,D,o,A⟩:=za h
    exact W _ _ _ _ _ A (L _ _ _ _ o (zt hE)) (XO (Ue.hd hE).1 (by omega) (by omega) (Q3 he (I _ _ _ _ o (zt hE))))
   ·obtain ⟨rfl,rfl⟩:=zk h;exact he
  ·rw [Zg] at h
   split at h
   ·obtain ⟨y,D,o,A⟩:=za h
    obtain ⟨rfl,rfl⟩:=zk A;exact XO (Ue.hd hE).1 (by omega) (by omega) (xS (V _ _ _ o (zt hE)))
   ·obtain ⟨y,D,o,A⟩:=za h
    exact T _ _ _ _ A (j5 _ _ _ o hE) (i5 _ _ _ o hE)
  ·rw [zw] at h
   split at h
   ·obtain ⟨y,D,o,A⟩:=za h
    obtain ⟨z,N,H,G⟩:=za A;exact T _ _ _ _ G (Zb H (L _ _ _ _ o (zt hE))) (XO (by simp) (by omega) (by omega) (Q3 he (I _ _ _ _ o (zt hE))))
   split at h
   ·obtain ⟨y,D,o,A⟩:=za h
    exact T _ _ _ _ A (Z9 o (zt hE)) (XO (by rw [vx o];exact (Ue.hd (zt hE)).1) (by omega) (by omega) (xS he))
   ·obtain ⟨rfl,rfl⟩:=zk h;exact he
  ·have J:=Ue.hd hE
   rw [zC] at h
   split at h
   ·obtain ⟨rfl,rfl⟩:=zk h;exact XO (by simp) (by omega) (by have:=J.2;omega) rfl
   split at h
   ·obtain ⟨rfl,rfl⟩:=zk h;exact XO J.1 (by omega) (by omega) rfl
   split at h
   ·split at h
    ·obtain ⟨y,D,o,A⟩:=za h
     obtain ⟨rfl,rfl⟩:=zk A;exact XO J.1 (by omega) (by omega) (Z _ _ _ o (zt hE))
    ·obtain ⟨rfl,rfl⟩:=zk h;exact XO J.1 (by omega) (by omega) rfl
   split at h
   ·obtain ⟨rfl,rfl⟩:=zk h;exact XO (by simp) (by omega) (by omega) rfl
   split at h
   ·obtain ⟨rfl,rfl⟩:=zk h;exact XO (by simp) (by omega) (by omega) rfl
   split at h
   ·obtain ⟨y,D,o,A⟩:=za h
    obtain ⟨z,N,H,G⟩:=za A;obtain ⟨rfl,rfl⟩:=zk G;exact XO (by rw [vx o];exact (Ue.hd (zt hE)).1) (by omega) (by omega) (Z _ _ _ H (Z9 o (zt hE)))
   split at h
   ·obtain ⟨y,D,o,A⟩:=za h
    obtain ⟨z,N,H,G⟩:=za A;obtain ⟨rfl,rfl⟩:=zk G;exact XO (by simp) (by omega) (by omega) (O _ _ _ _ o (zt hE) rfl)
   ·obtain ⟨y,D,o,A⟩:=za h
    obtain ⟨z,N,H,G⟩:=za A;obtain ⟨z',R,h5,Q⟩:=za G;obtain ⟨rfl,rfl⟩:=zk Q;exact I _ _ _ _ H (Zb o hE)
  ·rw [ZY] at h
   obtain ⟨y,D,o,A⟩:=za h;have U:=L _ _ _ _ o hE;have Y:=zft he (I _ _ _ _ o hE)
   split at A
   ·exact O _ _ _ _ A (zt U) Y
   ·obtain ⟨rfl,rfl⟩:=zk A;exact Y
  ·rw [zA] at h
   obtain ⟨y,D,o,A⟩:=za h;have U:=Zb o hE
   split at A
   ·obtain ⟨rfl,rfl⟩:=zk A;rfl
   ·obtain ⟨z,N,H,G⟩:=za A
    obtain ⟨z',R,h5,Q⟩:=za G;obtain ⟨rfl,rfl⟩:=zk Q;exact O _ _ _ _ H U rfl
theorem XI {s:List UInt8}:∀{a:Nat} {ts:List Tk},QJ s a ts→∀t∈ts,zeX s t
 | _,[],_,t,h=>by cases h
 | _,u::us,hp,t,h=>by
  rcases List.mem_cons.1 h with rfl | h
  ·exact hp.2.1
  ·exact XI hp.2.2 t h
theorem zbd (l:List UInt8):∀t∈(zW l).1,Ue t∧WdT t:=by
 intro t y
 by_cases h:(zW l).2.2=0
 ·have G:=XI ((Ym l).2 h).2.1 t y
  obtain ⟨-,-,H,-,I,A⟩:=G;refine ⟨⟨by omega,by omega⟩,fun h5=>?_⟩
  have D:yp t.s=true:=by
   have o:=(ZR (by rw [h5];decide) (by rw [h5];decide)).1 H
   rw [h5] at o;rcases o with o | o | o | o
   ·exact absurd o.1 (by decide)
   ·exact absurd o.1 (by decide)
   ·exact absurd o.1 (by decide)
   ·exact o.2.1
  have z:∀s,yp s=true→s≠[45]∧s≠[33]:=fun s A=>by
   constructor <;> (rintro rfl;revert A;decide)
  exact z _ D
 ·rw [(Ym l).1 h] at y
  cases y
theorem YY.one {r g B:Nat} {w w7:World} {σ:RS} {x:Ex} {a:Int} {b:ByteArray} {c:Int} {d0:Option Addr} {d1 d2:Nat} {l:Int} (k:Nat) (s:List UInt8) (n:Int) (line:Nat) (hK:zd r w w7) (hr:r<w.heap.size) (hg:g<w.heap.size) (hx:ZL B w7 x (.agg #[.int .i64 a,.string b,.int .i64 c,.slice d0 d1 d2,.int .i64 l])) (hB:w.heap.size<B) (hB7:B≤w7.heap.size) (hrd:yS r g σ w7) :
  YY r g w (.mk k s n [x] line,σ) (.returned (.agg #[.int .i64 k,.string (zb s),.int .i64 n,.slice (some ⟨w7.heap.size,0,none⟩) 1 1,.int .i64 line])) (set5 (w7.alloc (.cells #[.int .i64 a,.string b,.int .i64 c,.slice d0 d1 d2,.int .i64 l] 45)) w.heap.size (.int .i64 k) (.string (zb s)) (.int .i64 n) (.slice (some ⟨w7.heap.size,0,none⟩) 1 1) (.int .i64 line)):=by
 have h:=zK.one 45 (c:=[.int .i64 a,.string b,.int .i64 c,.slice d0 d1 d2,.int .i64 l]) hx rfl (by omega)
 exact YY.of_set5 (B:=B) k s n line (hK.alloc _) (Nat.le_refl _) hr hg h hB (hrd.alloc _)
mutual
theorem zgQ:∀x:Ex,dpE (Xr x)=zO x
 | .mk k s n kids line=>by rw [Xr,dpE,zO,zc3 kids,Nat.add_comm]
theorem zc3:∀l:List Ex,dpL (ye l)=depthL l
 | []=>by rw [ye,dpL,depthL]
 | x::xs=>by rw [ye,dpL,depthL,zgQ x,zc3 xs]
end
end Go.Proofs.YtpejpbbdgblbeaaGreatDoor
