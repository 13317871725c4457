import Derived.Test.YtmbofhpmockmbaaGreatDoorMC34
import Derived.Test.YtmbofhpmockmbaaGreatDoorMC36
import Derived.Test.YtmbofhpmockmbaaGreatDoorMC23
import Derived.Test.YtmbofhpmockmbaaGreatDoorSDMath
import Derived.Test.YtmbofhpmockmbaaGreatDoorXPartMath
namespace Go.Proofs.YtmbofhpmockmbaaGreatDoor
open Go.RowKit Go.Shelf
mutual
def exz:Ex→Ez
 | .mk k s n kids line=>.mk k s n (X8 kids) line
def X8:List Ex→List Ez
 | []=>[]
 | x::xs=>exz x::X8 xs
end
theorem X9 (l:List Ex):X8 l=l.map exz:=by
 induction l with
 | nil=>rfl
 | cons x xs ih=>rw [X8,ih];rfl
mutual
def vd:Ex→Bool
 | .mk _ s n kids _=>decide (s.length≤100000000)&&decide (-9223372036854775808≤n)&&decide (n≤9223372036854775807)&&V7 kids
def V7:List Ex→Bool
 | []=>true
 | x::xs=>vd x&&V7 xs
end
theorem U9 {l:List Ex} (h:V7 l=true):∀{i:Nat} {x:Ex},l[i]?=some x→vd x=true:=by
 induction l with
 | nil=>intro i x e;simp at e
 | cons y ys ih =>
  intro i x e;rw [V7,Bool.and_eq_true] at h;cases i with
  | zero=>simp only [List.getElem?_cons_zero,Option.some.injEq] at e;subst e;exact h.1
  | succ i=>exact ih h.2 (by simpa using e)
theorem zJ.ez {S:Nat→Prop} {B:Nat} {w:World} {x:Ex} {v:Value} (h:zJ S w x v) (hS:∀k,S k→k<w.heap.size→k<B) (hok:vd x=true):YE B w (exz x) v:=by
 induction h with
 | leaf k s n line =>
  rw [vd] at hok;simp only [Bool.and_eq_true,decide_eq_true_eq] at hok;exact YE.mk (k:Int) s n [] (line:Int) none 0 0 0 [] hok.1.1.1 hok.1.1.2 hok.1.2 (fun h=>absurd rfl h) rfl (Nat.le_refl _) (Nat.zero_le _) (fun j u hj=>by simp at hj) (fun c hc=>by simp at hc) (fun j x c hx=>by simp at hx)
 | node k s n kids line g cap us hne hlen hB hg hc hm hcell hfive _ ih =>
  rw [vd] at hok;simp only [Bool.and_eq_true,decide_eq_true_eq] at hok;have e:(X8 kids).length=kids.length:=by rw [X9,List.length_map]
  have:=YE.mk (B:=B) (w:=w) (k:Int) s n (X8 kids) (line:Int) (some ⟨g,0,none⟩) cap g 0 us hok.1.1.1 hok.1.1.2 hok.1.2 (fun _=>⟨rfl,hS g hB hg,hg⟩) (by rw [e];exact hlen) (by rw [e];exact hc) hm (fun j u hj=>by rw [Nat.zero_add];exact hcell j u hj) hfive (fun j x c hx hc'=>by
   rw [X9,List.getElem?_map] at hx;cases hy:kids[j]? with
   | none=>rw [hy] at hx;simp at hx
   | some y =>
    rw [hy] at hx;simp only [Option.map_some,Option.some.injEq] at hx;subst hx
    exact ih j y c hy hc' (U9 hok.2 hy))
  rw [e] at this;exact this
mutual
def stz:St→Sz
 | .mk k s es body els line=>.mk k s (X8 es) (UR body) (UR els) line
def UR:List St→List Sz
 | []=>[]
 | x::xs=>stz x::UR xs
end
theorem Q7 (l:List St):UR l=l.map stz:=by
 induction l with
 | nil=>rfl
 | cons x xs ih=>rw [UR,ih];rfl
mutual
def okS:St→Bool
 | .mk _ s es body els _=>decide (s.length≤100000000)&&V7 es&&Qf body&&Qf els
def Qf:List St→Bool
 | []=>true
 | x::xs=>okS x&&Qf xs
end
theorem vh {l:List St} (h:Qf l=true):∀{i:Nat} {x:St},l[i]?=some x→okS x=true:=by
 induction l with
 | nil=>intro i x e;simp at e
 | cons y ys ih =>
  intro i x e;rw [Qf,Bool.and_eq_true] at h;cases i with
  | zero=>simp only [List.getElem?_cons_zero,Option.some.injEq] at e;subst e;exact h.1
  | succ i=>exact ih h.2 (by simpa using e)
mutual
def hiS:St→Nat
 | .mk _ _ _ body els _=>1+max (uQ body) (uQ els)
def uQ:List St→Nat
 | []=>0
 | x::xs=>max (hiS x) (uQ xs)
end
theorem vj {l:List St}:∀{i:Nat} {x:St},l[i]?=some x→hiS x≤uQ l:=by
 induction l with
 | nil=>intro i x e;simp at e
 | cons y ys ih =>
  intro i x e;rw [uQ];cases i with
  | zero=>simp only [List.getElem?_cons_zero,Option.some.injEq] at e;subst e;omega
  | succ i=>have:=ih (i:=i) (x:=x) (by simpa using e);omega
theorem V0 {α β:Type} {P:β→List Value→Prop} {f:α→β} {sz B g cap:Nat} {w:World} {l:List α} {us:List (List Value)} (hlen:us.length=l.length) (hB:g<B) (hg:g<w.heap.size) (hc:l.length≤cap) (hm:cap≤maxLen) (hcell:∀j u,us.flatten[j]?=some u→w.cell? ⟨g,j,none⟩=some u) (hw:∀c∈us,c.length=sz)
  (hk:∀(j:Nat) (x:α) (c:List Value),l[j]?=some x→us[j]?=some c→P (f x) c):Yy P sz B w (l.map f) (some ⟨g,0,none⟩) l.length cap:=by
 refine ⟨by rw [List.length_map],by rw [List.length_map];exact hc,hm,fun i x hx=>?_⟩
 rw [List.getElem?_map] at hx;cases hy:l[i]? with
 | none=>rw [hy] at hx;simp at hx
 | some y =>
  rw [hy] at hx;simp only [Option.map_some,Option.some.injEq] at hx;subst hx;have z:i<l.length:=(List.getElem?_eq_some_iff.1 hy).1;obtain ⟨c,e⟩:∃c,us[i]?=some c:=⟨us[i]'(by omega),List.getElem?_eq_getElem (by omega)⟩
  have h:c.length=sz:=hw c (List.mem_of_getElem? e);refine ⟨g,0,c,rfl,hB,hg,h,hk i y c hy e,fun j u hj=>?_⟩
  have o:j<sz:=by rw [←h];exact (List.getElem?_eq_some_iff.1 hj).1
  rw [Nat.zero_add];exact hcell _ _ ((zaG hw e o).trans hj)
theorem vq {α β:Type} {P:β→List Value→Prop} {f:α→β} {sz B:Nat} {w:World}:Yy P sz B w (([]:List α).map f) none 0 0:=⟨rfl,Nat.le_refl _,Nat.zero_le _,fun i x hx=>by simp at hx⟩
theorem zK.rowZ {S:Nat→Prop} {B:Nat} {w:World} {l:List Ex} {v:Value} (h:zK S w l v) (hS:∀k,S k→k<w.heap.size→k<B) (hok:V7 l=true):∃b m cap,v=.slice b m cap∧Yy (EzC B w) 5 B w (X8 l) b m cap:=by
 rw [X9];rcases h with ⟨rfl,rfl⟩ | ⟨g,cap,H,rfl,_,o,z,y,G,E,e,D,A⟩
 ·exact ⟨none,0,0,rfl,vq⟩
 ·exact ⟨_,_,_,rfl,V0 o (hS g z y) y G E e D fun j x c hx hc'=>zJ.ez (A j x c hx hc') hS (U9 hok hx)⟩
theorem Yc.rowZ {S:Nat→Prop} {B f:Nat} {w:World} {l:List St} {v:Value} {g cap:Nat} {us:List (List Value)} (h:Yc S w l v g cap us) (hS:∀k,S k→k<w.heap.size→k<B)
  (hk:∀(j:Nat) (x:St) (c:List Value),l[j]?=some x→us[j]?=some c→YP B w f (stz x) c):∃b m cap,v=.slice b m cap∧Yy (YP B w f) 6 B w (UR l) b m cap:=by
 rw [Q7];rcases h with ⟨rfl,rfl⟩ | ⟨rfl,_,o,z,y,E,D,e,A⟩
 ·exact ⟨none,0,0,rfl,vq⟩
 ·exact ⟨_,_,_,rfl,V0 o (hS g z y) y E D e A hk⟩
theorem Yv.sz {S:Nat→Prop} {B:Nat} {w:World} {x:St} {v:Value} (h:Yv S w x v) (hS:∀k,S k→k<w.heap.size→k<B):∀(f:Nat) (c:List Value),hiS x≤f→okS x=true→v=.agg c.toArray→YP B w f (stz x) c:=by
 induction h with
 | mk k s es body els line ve vb vl gb cb gl cl ub ul he hbr hbk hl hlk ih1 ih2 =>
  intro f c K e N;rw [hiS] at K;rw [okS] at e;simp only [Bool.and_eq_true,decide_eq_true_eq] at e;obtain ⟨f,rfl⟩:∃f',f=f'+1:=⟨f-1,by omega⟩
  obtain ⟨A,G,J,rfl,O⟩:=he.rowZ hS e.1.1.2;obtain ⟨H,E,y,rfl,M⟩:=hbr.rowZ (f:=f) hS fun j x c hx hc=>ih1 j x c hx hc f c (by have:=vj hx;omega) (vh e.1.2 hx) rfl
  obtain ⟨I,D,o,rfl,L⟩:=hl.rowZ (f:=f) hS fun j x c hx hc=>ih2 j x c hx hc f c (by have:=vj hx;omega) (vh e.2 hx) rfl
  have z:c=[.int .i64 k,.string (za s),.slice A G J,.slice H E y,.slice I D o,.int .i64 line]:=by
   have:=congrArg (fun v=>match v with | .agg a=>a.toList | _=>[]) N
   simpa using this.symm
  exact ⟨A,G,J,H,E,y,I,D,o,z,e.1.1.1,O,M,L⟩
def rcz (x:Rc):Rz:=⟨x.name,x.fields,x.line⟩
def fcz (x:Fc):Fz:=⟨x.name,x.params,x.result,UR x.body,x.line⟩
def pgz (x:Pg):Pz:=⟨x.recs.map rcz,x.funs.map fcz⟩
def za0 (l:List Pm):Bool:=l.all fun p=>decide (p.1.length≤100000000)&&decide (p.2.length≤100000000)
def zbk (x:Rc):Bool:=decide (x.name.length≤100000000)&&za0 x.fields
def zbl (x:Fc):Bool:=decide (x.name.length≤100000000)&&decide (x.result.length≤100000000)&&za0 x.params&&Qf x.body
def zbm (x:Pg):Bool:=x.recs.all zbk&&x.funs.all zbl
def Q8 (x:Pg):Nat:=(x.funs.map fun y=>uQ y.body).foldr max 0
theorem Q9 {l:List Fc} {y:Fc} (h:y∈l):uQ y.body≤(l.map fun y=>uQ y.body).foldr max 0:=by
 induction l with
 | nil=>simp at h
 | cons z zs ih =>
  rw [List.map_cons,List.foldr_cons];rcases List.mem_cons.1 h with rfl | h
  ·omega
  ·have:=ih h;omega
theorem YZ.rowZ {α β:Type} {E:(Nat→Prop)→World→α→List Value→Prop} {P:β→List Value→Prop} {f:α→β} {sz:Nat} {S:Nat→Prop} {B:Nat} {w:World} {l:List α} {v:Value} (h:YZ E sz S w l v) (hS:∀k,S k→k<w.heap.size→k<B)
  (hk:∀(x:α) (c:List Value),x∈l→E S w x c→P (f x) c):∃b m cap,v=.slice b m cap∧Yy P sz B w (l.map f) b m cap:=by
 rcases h with ⟨rfl,rfl⟩ | ⟨g,cap,I,rfl,_,o,A,z,H,G,e,D,y⟩
 ·exact ⟨none,0,0,rfl,vq⟩
 ·exact ⟨_,_,_,rfl,V0 o (hS g A z) z H G e D fun j x c hx hc'=>hk x c (List.mem_of_getElem? hx) (y j x c hx hc')⟩
theorem Vq.rowZ {S:Nat→Prop} {B:Nat} {w:World} {l:List Pm} {v:Value} (h:Vq S w l v) (hS:∀k,S k→k<w.heap.size→k<B) (hok:za0 l=true):∃b m cap,v=.slice b m cap∧Yy PmZ 2 B w l b m cap:=by
 have:=YZ.rowZ (P:=PmZ) (f:=fun x:Pm=>(x:List UInt8 × List UInt8)) h hS fun x c hx hc=>by
  have e:=List.all_eq_true.1 hok x hx;simp only [Bool.and_eq_true,decide_eq_true_eq] at e;exact ⟨hc,e.1,e.2⟩
 simpa using this
theorem xZ.pz {S:Nat→Prop} {B:Nat} {w:World} {x:Pg} {v:Value} (h:xZ S w x v) (hS:∀k,S k→k<w.heap.size→k<B) (hok:zbm x=true):UP B w (Q8 x) (pgz x) v:=by
 obtain ⟨U,R,rfl,Q,N⟩:=h
 unfold zbm at hok
 rw [Bool.and_eq_true] at hok
 obtain ⟨b,m,o,rfl,I⟩:=Q.rowZ (P:=vO B w) (f:=rcz) hS fun x c hx hc=>by
  have e:=List.all_eq_true.1 hok.1 x hx
  unfold zbk at e
  simp only [Bool.and_eq_true,decide_eq_true_eq] at e;obtain ⟨K,rfl,H⟩:=hc;obtain ⟨b,m,o,rfl,D⟩:=Vq.rowZ H hS e.2;exact ⟨b,m,o,rfl,e.1,D⟩
 obtain ⟨G,E,A,rfl,L⟩:=N.rowZ (P:=vP B w (Q8 x)) (f:=fcz) hS fun y c hx hc=>by
  have e:=List.all_eq_true.1 hok.2 y hx
  unfold zbl at e
  simp only [Bool.and_eq_true,decide_eq_true_eq] at e;obtain ⟨K,V,rfl,H,M⟩:=hc;obtain ⟨b,m,o,rfl,D⟩:=Vq.rowZ H hS e.1.2;obtain ⟨g,T,W,I,O⟩:=M;obtain ⟨G,E,A,rfl,J⟩:=I.rowZ (f:=Q8 x) hS fun j z c hz hc=>Yv.sz (O j z c hz hc) hS (Q8 x) c (by have:=vj hz;have:=Q9 hx;unfold Q8;omega) (vh e.2 hz) rfl
  exact ⟨b,m,o,G,E,A,rfl,e.1.1.1,e.1.1.2,D,J⟩
 exact ⟨b,m,o,G,E,A,rfl,I,L⟩
def uR (t:Tk):Prop:=t.s.length≤100000000∧t.n≤9223372036854775807
theorem uR.hd {ts:List Tk} (h:∀t∈ts,uR t):uR (zx ts):=by
 cases ts with
 | nil=>exact ⟨by simp [zx],by simp [zx]⟩
 | cons t us=>exact h t (List.mem_cons_self ..)
theorem YN {k:Nat} {s:List UInt8} {n:Int} {kids:List Ex} {line:Nat} (hs:s.length≤100000000) (h0:-9223372036854775808≤n) (h1:n≤9223372036854775807) (hk:V7 kids=true):vd (.mk k s n kids line)=true:=by
 rw [vd]
 simp [hs,h0,h1,hk]
theorem V1 {x:Ex} (h:vd x=true):V7 [x]=true:=by simp [V7,h]
theorem qa {x y:Ex} (h:vd x=true) (g:vd y=true):V7 [x,y]=true:=by simp [V7,h,g]
theorem zaa {l:List Ex} {x:Ex} (h:V7 l=true) (g:vd x=true):V7 (l++[x])=true:=by
 induction l with
 | nil=>exact V1 g
 | cons y ys ih =>
  rw [V7,Bool.and_eq_true] at h;rw [List.cons_append,V7,h.1,ih h.2];rfl
theorem uS {s:List UInt8} {ts us:List Tk} (h:yI ts=some (.ok (s,us))):s=(zx ts).s:=by
 unfold yI at h
 split at h
 ·simp only [Option.some.injEq,Except.ok.injEq,Prod.mk.injEq] at h
  exact h.1.symm
 ·cases h
theorem uT (f:Nat) :
  (∀least ts x us,zh f least ts=some (.ok (x,us))→(∀t∈ts,uR t)→vd x=true)∧(∀least e ts x us,Za f least e ts=some (.ok (x,us))→(∀t∈ts,uR t)→vd e=true→vd x=true) ∧
  (∀ts x us,zY f ts=some (.ok (x,us))→(∀t∈ts,uR t)→vd x=true)∧(∀e ts x us,zr f e ts=some (.ok (x,us))→(∀t∈ts,uR t)→vd e=true→vd x=true)∧(∀ts x us,zC f ts=some (.ok (x,us))→(∀t∈ts,uR t)→vd x=true) ∧
  (∀pre ts x us,ZS f pre ts=some (.ok (x,us))→(∀t∈ts,uR t)→V7 pre=true→V7 x=true)∧(∀ts x us,zy f ts=some (.ok (x,us))→(∀t∈ts,uR t)→V7 x=true):=by
 induction f with
 | zero=>refine ⟨?_,?_,?_,?_,?_,?_,?_⟩ <;> intros <;> simp_all [zh,Za,zY,zr,zC,ZS,zy]
 | succ f ih =>
  obtain ⟨i1,Q,T,K,V,L,R⟩:=ih;obtain ⟨I,j2,Z,j4,W,j6,j7⟩:=Yr (P:=uR) f;refine ⟨fun least ts x us h hE=>?_,fun least e ts x us h hE he=>?_,fun ts x us h hE=>?_,fun e ts x us h hE he=>?_,fun ts x us h hE=>?_,fun pre ts x us h hE he=>?_,fun ts x us h hE=>?_⟩
  ·rw [zh] at h
   split at h
   ·exact T _ _ _ h hE
   ·obtain ⟨y,D,o,A⟩:=zg h
    exact Q _ _ _ _ _ A (I _ _ _ _ o hE) (i1 _ _ _ _ o hE)
  ·rw [Za] at h
   split at h
   ·obtain ⟨y,D,o,A⟩:=zg h
    exact Q _ _ _ _ _ A (I _ _ _ _ o (zU hE)) (YN (uR.hd hE).1 (by omega) (by omega) (qa he (i1 _ _ _ _ o (zU hE))))
   ·obtain ⟨rfl,rfl⟩:=zH h;exact he
  ·rw [zY] at h
   split at h
   ·obtain ⟨y,D,o,A⟩:=zg h
    obtain ⟨rfl,rfl⟩:=zH A;exact YN (uR.hd hE).1 (by omega) (by omega) (V1 (T _ _ _ o (zU hE)))
   ·obtain ⟨y,D,o,A⟩:=zg h
    exact K _ _ _ _ A (W _ _ _ o hE) (V _ _ _ o hE)
  ·rw [zr] at h
   split at h
   ·obtain ⟨y,D,o,A⟩:=zg h
    obtain ⟨z,J,G,E⟩:=zg A;exact K _ _ _ _ E (ZV G (I _ _ _ _ o (zU hE))) (YN (by simp) (by omega) (by omega) (qa he (i1 _ _ _ _ o (zU hE))))
   split at h
   ·obtain ⟨y,D,o,A⟩:=zg h
    exact K _ _ _ _ A (yX o (zU hE)) (YN (by rw [uS o];exact (uR.hd (zU hE)).1) (by omega) (by omega) (V1 he))
   ·obtain ⟨rfl,rfl⟩:=zH h;exact he
  ·have H:=uR.hd hE
   rw [zC] at h
   split at h
   ·obtain ⟨rfl,rfl⟩:=zH h;exact YN (by simp) (by omega) (by have:=H.2;omega) rfl
   split at h
   ·obtain ⟨rfl,rfl⟩:=zH h;exact YN H.1 (by omega) (by omega) rfl
   split at h
   ·split at h
    ·obtain ⟨y,D,o,A⟩:=zg h
     obtain ⟨rfl,rfl⟩:=zH A;exact YN H.1 (by omega) (by omega) (R _ _ _ o (zU hE))
    ·obtain ⟨rfl,rfl⟩:=zH h;exact YN H.1 (by omega) (by omega) rfl
   split at h
   ·obtain ⟨rfl,rfl⟩:=zH h;exact YN (by simp) (by omega) (by omega) rfl
   split at h
   ·obtain ⟨rfl,rfl⟩:=zH h;exact YN (by simp) (by omega) (by omega) rfl
   split at h
   ·obtain ⟨y,D,o,A⟩:=zg h
    obtain ⟨z,J,G,E⟩:=zg A;obtain ⟨rfl,rfl⟩:=zH E;exact YN (by rw [uS o];exact (uR.hd (zU hE)).1) (by omega) (by omega) (R _ _ _ G (yX o (zU hE)))
   split at h
   ·obtain ⟨y,D,o,A⟩:=zg h
    obtain ⟨z,J,G,E⟩:=zg A;obtain ⟨rfl,rfl⟩:=zH E;exact YN (by simp) (by omega) (by omega) (L _ _ _ _ o (zU hE) rfl)
   ·obtain ⟨y,D,o,A⟩:=zg h
    obtain ⟨z,J,G,E⟩:=zg A;obtain ⟨Y,M,X,N⟩:=zg E;obtain ⟨rfl,rfl⟩:=zH N;exact i1 _ _ _ _ G (ZV o hE)
  ·rw [ZS] at h
   obtain ⟨y,D,o,A⟩:=zg h;have O:=I _ _ _ _ o hE;have U:=zaa he (i1 _ _ _ _ o hE)
   split at A
   ·exact L _ _ _ _ A (zU O) U
   ·obtain ⟨rfl,rfl⟩:=zH A;exact U
  ·rw [zy] at h
   obtain ⟨y,D,o,A⟩:=zg h;have O:=ZV o hE
   split at A
   ·obtain ⟨rfl,rfl⟩:=zH A;rfl
   ·obtain ⟨z,J,G,E⟩:=zg A
    obtain ⟨Y,M,X,N⟩:=zg E;obtain ⟨rfl,rfl⟩:=zH N;exact L _ _ _ _ G O rfl
theorem vt {s:List UInt8}:∀{a:Nat} {ts:List Tk},VZ s a ts→∀t∈ts,Q6 s t
 | _,[],_,t,h=>by cases h
 | _,u::us,hp,t,h=>by
  rcases List.mem_cons.1 h with rfl | h
  ·exact hp.2.1
  ·exact vt hp.2.2 t h
theorem uU (l:List UInt8):∀t∈(zp l).1,uR t∧WdT t:=by
 intro t o
 by_cases h:(zp l).2.2=0
 ·have E:=vt ((Xo l).2 h).2.1 t o
  obtain ⟨-,-,A,-,G,z⟩:=E;refine ⟨⟨by omega,by omega⟩,fun h5=>?_⟩
  have D:ZB t.s=true:=by
   have e:=(yZ (by rw [h5];decide) (by rw [h5];decide)).1 A
   rw [h5] at e;rcases e with e | e | e | e
   ·exact absurd e.1 (by decide)
   ·exact absurd e.1 (by decide)
   ·exact absurd e.1 (by decide)
   ·exact e.2.1
  have y:∀s,ZB s=true→s≠[45]∧s≠[33]:=fun s z=>by
   constructor <;> (rintro rfl;revert z;decide)
  exact y _ D
 ·rw [(Xo l).1 h] at o
  cases o
end Go.Proofs.YtmbofhpmockmbaaGreatDoor
