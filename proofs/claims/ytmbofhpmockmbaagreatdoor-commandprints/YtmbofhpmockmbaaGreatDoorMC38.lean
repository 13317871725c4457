import Derived.Test.YtmbofhpmockmbaaGreatDoorMC35
import Derived.Test.YtmbofhpmockmbaaGreatDoorMC37
import Derived.Test.YtmbofhpmockmbaaGreatDoorMC24
import Derived.Test.YtmbofhpmockmbaaGreatDoorSDMath
import Derived.Test.YtmbofhpmockmbaaGreatDoorXPartMath
namespace Go.Proofs.YtmbofhpmockmbaaGreatDoor
open Go.RowKit Go.Shelf
mutual
def exz:Ex→Ez
 | .mk k s n kids line=>.mk k s n (XU kids) line
def XU:List Ex→List Ez
 | []=>[]
 | x::xs=>exz x::XU xs
end
theorem XV (l:List Ex):XU l=l.map exz:=by
 induction l with
 | nil=>rfl
 | cons x xs ih=>rw [XU,ih];rfl
mutual
def XW:Ex→Bool
 | .mk _ s n kids _=>decide (s.length≤100000000)&&decide (-9223372036854775808≤n)&&decide (n≤9223372036854775807)&&VM kids
def VM:List Ex→Bool
 | []=>true
 | x::xs=>XW x&&VM xs
end
theorem UR {l:List Ex} (h:VM l=true):∀{i:Nat} {x:Ex},l[i]?=some x→XW x=true:=by
 induction l with
 | nil=>intro i x e;simp at e
 | cons y ys ih =>
  intro i x e;rw [VM,Bool.and_eq_true] at h;cases i with
  | zero=>simp only [List.getElem?_cons_zero,Option.some.injEq] at e;subst e;exact h.1
  | succ i=>exact ih h.2 (by simpa using e)
theorem zH.ez {S:Nat→Prop} {B:Nat} {w:World} {x:Ex} {v:Value} (h:zH S w x v) (hS:∀k,S k→k<w.heap.size→k<B) (hok:XW x=true):Yx B w (exz x) v:=by
 induction h with
 | leaf k s n line =>
  rw [XW] at hok;simp only [Bool.and_eq_true,decide_eq_true_eq] at hok;exact Yx.mk (k:Int) s n [] (line:Int) none 0 0 0 [] hok.1.1.1 hok.1.1.2 hok.1.2 (fun h=>absurd rfl h) rfl (Nat.le_refl _) (Nat.zero_le _) (fun j u hj=>by simp at hj) (fun c hc=>by simp at hc) (fun j x c hx=>by simp at hx)
 | node k s n kids line g cap us hne hlen hB hg hc hm hcell hfive _ ih =>
  rw [XW] at hok;simp only [Bool.and_eq_true,decide_eq_true_eq] at hok;have e:(XU kids).length=kids.length:=by rw [XV,List.length_map]
  have:=Yx.mk (B:=B) (w:=w) (k:Int) s n (XU kids) (line:Int) (some ⟨g,0,none⟩) cap g 0 us hok.1.1.1 hok.1.1.2 hok.1.2 (fun _=>⟨rfl,hS g hB hg,hg⟩) (by rw [e];exact hlen) (by rw [e];exact hc) hm (fun j u hj=>by rw [Nat.zero_add];exact hcell j u hj) hfive (fun j x c hx hc'=>by
   rw [XV,List.getElem?_map] at hx;cases hy:kids[j]? with
   | none=>rw [hy] at hx;simp at hx
   | some y =>
    rw [hy] at hx;simp only [Option.map_some,Option.some.injEq] at hx;subst hx
    exact ih j y c hy hc' (UR hok.2 hy))
  rw [e] at this;exact this
mutual
def stz:St→Sz
 | .mk k s es body els line=>.mk k s (XU es) (Uy body) (Uy els) line
def Uy:List St→List Sz
 | []=>[]
 | x::xs=>stz x::Uy xs
end
theorem QK (l:List St):Uy l=l.map stz:=by
 induction l with
 | nil=>rfl
 | cons x xs ih=>rw [Uy,ih];rfl
mutual
def okS:St→Bool
 | .mk _ s es body els _=>decide (s.length≤100000000)&&VM es&&qM body&&qM els
def qM:List St→Bool
 | []=>true
 | x::xs=>okS x&&qM xs
end
theorem XX {l:List St} (h:qM l=true):∀{i:Nat} {x:St},l[i]?=some x→okS x=true:=by
 induction l with
 | nil=>intro i x e;simp at e
 | cons y ys ih =>
  intro i x e;rw [qM,Bool.and_eq_true] at h;cases i with
  | zero=>simp only [List.getElem?_cons_zero,Option.some.injEq] at e;subst e;exact h.1
  | succ i=>exact ih h.2 (by simpa using e)
mutual
def hiS:St→Nat
 | .mk _ _ _ body els _=>1+max (uu body) (uu els)
def uu:List St→Nat
 | []=>0
 | x::xs=>max (hiS x) (uu xs)
end
theorem XY {l:List St}:∀{i:Nat} {x:St},l[i]?=some x→hiS x≤uu l:=by
 induction l with
 | nil=>intro i x e;simp at e
 | cons y ys ih =>
  intro i x e;rw [uu];cases i with
  | zero=>simp only [List.getElem?_cons_zero,Option.some.injEq] at e;subst e;omega
  | succ i=>have:=ih (i:=i) (x:=x) (by simpa using e);omega
theorem VG {α β:Type} {P:β→List Value→Prop} {f:α→β} {sz B g cap:Nat} {w:World} {l:List α} {us:List (List Value)} (hlen:us.length=l.length) (hB:g<B) (hg:g<w.heap.size) (hc:l.length≤cap) (hm:cap≤maxLen) (hcell:∀j u,us.flatten[j]?=some u→w.cell? ⟨g,j,none⟩=some u) (hw:∀c∈us,c.length=sz)
  (hk:∀(j:Nat) (x:α) (c:List Value),l[j]?=some x→us[j]?=some c→P (f x) c):Yr P sz B w (l.map f) (some ⟨g,0,none⟩) l.length cap:=by
 refine ⟨by rw [List.length_map],by rw [List.length_map];exact hc,hm,fun i x hx=>?_⟩
 rw [List.getElem?_map] at hx;cases hy:l[i]? with
 | none=>rw [hy] at hx;simp at hx
 | some y =>
  rw [hy] at hx;simp only [Option.map_some,Option.some.injEq] at hx;subst hx;have z:i<l.length:=(List.getElem?_eq_some_iff.1 hy).1;obtain ⟨c,e⟩:∃c,us[i]?=some c:=⟨us[i]'(by omega),List.getElem?_eq_getElem (by omega)⟩
  have h:c.length=sz:=hw c (List.mem_of_getElem? e);refine ⟨g,0,c,rfl,hB,hg,h,hk i y c hy e,fun j u hj=>?_⟩
  have o:j<sz:=by rw [←h];exact (List.getElem?_eq_some_iff.1 hj).1
  rw [Nat.zero_add];exact hcell _ _ ((zaj hw e o).trans hj)
theorem XZ {α β:Type} {P:β→List Value→Prop} {f:α→β} {sz B:Nat} {w:World}:Yr P sz B w (([]:List α).map f) none 0 0:=⟨rfl,Nat.le_refl _,Nat.zero_le _,fun i x hx=>by simp at hx⟩
theorem zI.rowZ {S:Nat→Prop} {B:Nat} {w:World} {l:List Ex} {v:Value} (h:zI S w l v) (hS:∀k,S k→k<w.heap.size→k<B) (hok:VM l=true):∃b m cap,v=.slice b m cap∧Yr (EzC B w) 5 B w (XU l) b m cap:=by
 rw [XV];rcases h with ⟨rfl,rfl⟩ | ⟨g,cap,H,rfl,_,o,D,y,A,G,e,z,E⟩
 ·exact ⟨none,0,0,rfl,XZ⟩
 ·exact ⟨_,_,_,rfl,VG o (hS g D y) y A G e z fun j x c hx hc'=>zH.ez (E j x c hx hc') hS (UR hok hx)⟩
theorem yY.rowZ {S:Nat→Prop} {B f:Nat} {w:World} {l:List St} {v:Value} {g cap:Nat} {us:List (List Value)} (h:yY S w l v g cap us) (hS:∀k,S k→k<w.heap.size→k<B)
  (hk:∀(j:Nat) (x:St) (c:List Value),l[j]?=some x→us[j]?=some c→YG B w f (stz x) c):∃b m cap,v=.slice b m cap∧Yr (YG B w f) 6 B w (Uy l) b m cap:=by
 rw [QK];rcases h with ⟨rfl,rfl⟩ | ⟨rfl,_,o,D,y,A,E,e,z⟩
 ·exact ⟨none,0,0,rfl,XZ⟩
 ·exact ⟨_,_,_,rfl,VG o (hS g D y) y A E e z hk⟩
theorem Yo.sz {S:Nat→Prop} {B:Nat} {w:World} {x:St} {v:Value} (h:Yo S w x v) (hS:∀k,S k→k<w.heap.size→k<B):∀(f:Nat) (c:List Value),hiS x≤f→okS x=true→v=.agg c.toArray→YG B w f (stz x) c:=by
 induction h with
 | mk k s es body els line ve vb vl gb cb gl cl ub ul he hbr hbk hl hlk ih1 ih2 =>
  intro f c M e L;rw [hiS] at M;rw [okS] at e;simp only [Bool.and_eq_true,decide_eq_true_eq] at e;obtain ⟨f,rfl⟩:∃f',f=f'+1:=⟨f-1,by omega⟩
  obtain ⟨H,G,E,rfl,O⟩:=he.rowZ hS e.1.1.2;obtain ⟨I,D,o,rfl,K⟩:=hbr.rowZ (f:=f) hS fun j x c hx hc=>ih1 j x c hx hc f c (by have:=XY hx;omega) (XX e.1.2 hx) rfl
  obtain ⟨A,J,y,rfl,N⟩:=hl.rowZ (f:=f) hS fun j x c hx hc=>ih2 j x c hx hc f c (by have:=XY hx;omega) (XX e.2 hx) rfl
  have z:c=[.int .i64 k,.string (za s),.slice H G E,.slice I D o,.slice A J y,.int .i64 line]:=by
   have:=congrArg (fun v=>match v with | .agg a=>a.toList | _=>[]) L
   simpa using this.symm
  exact ⟨H,G,E,I,D,o,A,J,y,z,e.1.1.1,O,K,N⟩
def rcz (x:Rc):Rz:=⟨x.name,x.fields,x.line⟩
def fcz (x:Fc):Fz:=⟨x.name,x.params,x.result,Uy x.body,x.line⟩
def pgz (x:Pg):Pz:=⟨x.recs.map rcz,x.funs.map fcz⟩
def zaD (l:List Pm):Bool:=l.all fun p=>decide (p.1.length≤100000000)&&decide (p.2.length≤100000000)
def zaX (x:Rc):Bool:=decide (x.name.length≤100000000)&&zaD x.fields
def zaY (x:Fc):Bool:=decide (x.name.length≤100000000)&&decide (x.result.length≤100000000)&&zaD x.params&&qM x.body
def zaZ (x:Pg):Bool:=x.recs.all zaX&&x.funs.all zaY
def QL (x:Pg):Nat:=(x.funs.map fun y=>uu y.body).foldr max 0
theorem QM {l:List Fc} {y:Fc} (h:y∈l):uu y.body≤(l.map fun y=>uu y.body).foldr max 0:=by
 induction l with
 | nil=>simp at h
 | cons z zs ih =>
  rw [List.map_cons,List.foldr_cons];rcases List.mem_cons.1 h with rfl | h
  ·omega
  ·have:=ih h;omega
theorem YR.rowZ {α β:Type} {E:(Nat→Prop)→World→α→List Value→Prop} {P:β→List Value→Prop} {f:α→β} {sz:Nat} {S:Nat→Prop} {B:Nat} {w:World} {l:List α} {v:Value} (h:YR E sz S w l v) (hS:∀k,S k→k<w.heap.size→k<B)
  (hk:∀(x:α) (c:List Value),x∈l→E S w x c→P (f x) c):∃b m cap,v=.slice b m cap∧Yr P sz B w (l.map f) b m cap:=by
 rcases h with ⟨rfl,rfl⟩ | ⟨g,cap,I,rfl,_,o,G,z,D,H,e,A,y⟩
 ·exact ⟨none,0,0,rfl,XZ⟩
 ·exact ⟨_,_,_,rfl,VG o (hS g G z) z D H e A fun j x c hx hc'=>hk x c (List.mem_of_getElem? hx) (y j x c hx hc')⟩
theorem v6.rowZ {S:Nat→Prop} {B:Nat} {w:World} {l:List Pm} {v:Value} (h:v6 S w l v) (hS:∀k,S k→k<w.heap.size→k<B) (hok:zaD l=true):∃b m cap,v=.slice b m cap∧Yr PmZ 2 B w l b m cap:=by
 have:=YR.rowZ (P:=PmZ) (f:=fun x:Pm=>(x:List UInt8 × List UInt8)) h hS fun x c hx hc=>by
  have e:=List.all_eq_true.1 hok x hx;simp only [Bool.and_eq_true,decide_eq_true_eq] at e;exact ⟨hc,e.1,e.2⟩
 simpa using this
theorem xP.pz {S:Nat→Prop} {B:Nat} {w:World} {x:Pg} {v:Value} (h:xP S w x v) (hS:∀k,S k→k<w.heap.size→k<B) (hok:zaZ x=true):Uw B w (QL x) (pgz x) v:=by
 obtain ⟨U,V,rfl,O,K⟩:=h
 unfold zaZ at hok
 rw [Bool.and_eq_true] at hok
 obtain ⟨b,m,e,rfl,I⟩:=O.rowZ (P:=vy B w) (f:=rcz) hS fun x c hx hc=>by
  have A:=List.all_eq_true.1 hok.1 x hx
  unfold zaX at A
  simp only [Bool.and_eq_true,decide_eq_true_eq] at A;obtain ⟨M,rfl,G⟩:=hc;obtain ⟨b,m,e,rfl,D⟩:=v6.rowZ G hS A.2;exact ⟨b,m,e,rfl,A.1,D⟩
 obtain ⟨J,H,o,rfl,N⟩:=K.rowZ (P:=vz B w (QL x)) (f:=fcz) hS fun y c hx hc=>by
  have A:=List.all_eq_true.1 hok.2 y hx
  unfold zaY at A
  simp only [Bool.and_eq_true,decide_eq_true_eq] at A;obtain ⟨M,W,rfl,G,Q⟩:=hc;obtain ⟨b,m,e,rfl,D⟩:=v6.rowZ G hS A.1.2;obtain ⟨g,R,T,I,L⟩:=Q;obtain ⟨J,H,o,rfl,E⟩:=I.rowZ (f:=QL x) hS fun j z c hz hc=>Yo.sz (L j z c hz hc) hS (QL x) c (by have:=XY hz;have:=QM hx;unfold QL;omega) (XX A.2 hz) rfl
  exact ⟨b,m,e,J,H,o,rfl,A.1.1.1,A.1.1.2,D,E⟩
 exact ⟨b,m,e,J,H,o,rfl,I,N⟩
def uv (t:Tk):Prop:=t.s.length≤100000000∧t.n≤9223372036854775807
theorem uv.hd {ts:List Tk} (h:∀t∈ts,uv t):uv (zu ts):=by
 cases ts with
 | nil=>exact ⟨by simp [zu],by simp [zu]⟩
 | cons t us=>exact h t (List.mem_cons_self ..)
theorem YE {k:Nat} {s:List UInt8} {n:Int} {kids:List Ex} {line:Nat} (hs:s.length≤100000000) (h0:-9223372036854775808≤n) (h1:n≤9223372036854775807) (hk:VM kids=true):XW (.mk k s n kids line)=true:=by
 rw [XW]
 simp [hs,h0,h1,hk]
theorem VH {x:Ex} (h:XW x=true):VM [x]=true:=by simp [VM,h]
theorem US {x y:Ex} (h:XW x=true) (g:XW y=true):VM [x,y]=true:=by simp [VM,h,g]
theorem QN {l:List Ex} {x:Ex} (h:VM l=true) (g:XW x=true):VM (l++[x])=true:=by
 induction l with
 | nil=>exact VH g
 | cons y ys ih =>
  rw [VM,Bool.and_eq_true] at h;rw [List.cons_append,VM,h.1,ih h.2];rfl
theorem uw {s:List UInt8} {ts us:List Tk} (h:yD ts=some (.ok (s,us))):s=(zu ts).s:=by
 unfold yD at h
 split at h
 ·simp only [Option.some.injEq,Except.ok.injEq,Prod.mk.injEq] at h
  exact h.1.symm
 ·cases h
theorem ux (f:Nat) :
  (∀least ts x us,zg f least ts=some (.ok (x,us))→(∀t∈ts,uv t)→XW x=true)∧(∀least e ts x us,zZ f least e ts=some (.ok (x,us))→(∀t∈ts,uv t)→XW e=true→XW x=true) ∧
  (∀ts x us,zW f ts=some (.ok (x,us))→(∀t∈ts,uv t)→XW x=true)∧(∀e ts x us,zp f e ts=some (.ok (x,us))→(∀t∈ts,uv t)→XW e=true→XW x=true)∧(∀ts x us,zA f ts=some (.ok (x,us))→(∀t∈ts,uv t)→XW x=true) ∧
  (∀pre ts x us,ZO f pre ts=some (.ok (x,us))→(∀t∈ts,uv t)→VM pre=true→VM x=true)∧(∀ts x us,zw f ts=some (.ok (x,us))→(∀t∈ts,uv t)→VM x=true):=by
 induction f with
 | zero=>refine ⟨?_,?_,?_,?_,?_,?_,?_⟩ <;> intros <;> simp_all [zg,zZ,zW,zp,zA,ZO,zw]
 | succ f ih =>
  obtain ⟨i1,T,R,O,Y,N,Q⟩:=ih;obtain ⟨H,Z,j3,j4,V,j6,j7⟩:=Yk (P:=uv) f;refine ⟨fun least ts x us h hE=>?_,fun least e ts x us h hE he=>?_,fun ts x us h hE=>?_,fun e ts x us h hE he=>?_,fun ts x us h hE=>?_,fun pre ts x us h hE he=>?_,fun ts x us h hE=>?_⟩
  ·rw [zg] at h
   split at h
   ·exact R _ _ _ h hE
   ·obtain ⟨y,D,o,A⟩:=ze h
    exact T _ _ _ _ _ A (H _ _ _ _ o hE) (i1 _ _ _ _ o hE)
  ·rw [zZ] at h
   split at h
   ·obtain ⟨y,D,o,A⟩:=ze h
    exact T _ _ _ _ _ A (H _ _ _ _ o (zS hE)) (YE (uv.hd hE).1 (by omega) (by omega) (US he (i1 _ _ _ _ o (zS hE))))
   ·obtain ⟨rfl,rfl⟩:=zF h;exact he
  ·rw [zW] at h
   split at h
   ·obtain ⟨y,D,o,A⟩:=ze h
    obtain ⟨rfl,rfl⟩:=zF A;exact YE (uv.hd hE).1 (by omega) (by omega) (VH (R _ _ _ o (zS hE)))
   ·obtain ⟨y,D,o,A⟩:=ze h
    exact O _ _ _ _ A (V _ _ _ o hE) (Y _ _ _ o hE)
  ·rw [zp] at h
   split at h
   ·obtain ⟨y,D,o,A⟩:=ze h
    obtain ⟨z,J,G,E⟩:=ze A;exact O _ _ _ _ E (ZR G (H _ _ _ _ o (zS hE))) (YE (by simp) (by omega) (by omega) (US he (i1 _ _ _ _ o (zS hE))))
   split at h
   ·obtain ⟨y,D,o,A⟩:=ze h
    exact O _ _ _ _ A (yQ o (zS hE)) (YE (by rw [uw o];exact (uv.hd (zS hE)).1) (by omega) (by omega) (VH he))
   ·obtain ⟨rfl,rfl⟩:=zF h;exact he
  ·have I:=uv.hd hE
   rw [zA] at h
   split at h
   ·obtain ⟨rfl,rfl⟩:=zF h;exact YE (by simp) (by omega) (by have:=I.2;omega) rfl
   split at h
   ·obtain ⟨rfl,rfl⟩:=zF h;exact YE I.1 (by omega) (by omega) rfl
   split at h
   ·split at h
    ·obtain ⟨y,D,o,A⟩:=ze h
     obtain ⟨rfl,rfl⟩:=zF A;exact YE I.1 (by omega) (by omega) (Q _ _ _ o (zS hE))
    ·obtain ⟨rfl,rfl⟩:=zF h;exact YE I.1 (by omega) (by omega) rfl
   split at h
   ·obtain ⟨rfl,rfl⟩:=zF h;exact YE (by simp) (by omega) (by omega) rfl
   split at h
   ·obtain ⟨rfl,rfl⟩:=zF h;exact YE (by simp) (by omega) (by omega) rfl
   split at h
   ·obtain ⟨y,D,o,A⟩:=ze h
    obtain ⟨z,J,G,E⟩:=ze A;obtain ⟨rfl,rfl⟩:=zF E;exact YE (by rw [uw o];exact (uv.hd (zS hE)).1) (by omega) (by omega) (Q _ _ _ G (yQ o (zS hE)))
   split at h
   ·obtain ⟨y,D,o,A⟩:=ze h
    obtain ⟨z,J,G,E⟩:=ze A;obtain ⟨rfl,rfl⟩:=zF E;exact YE (by simp) (by omega) (by omega) (N _ _ _ _ o (zS hE) rfl)
   ·obtain ⟨y,D,o,A⟩:=ze h
    obtain ⟨z,J,G,E⟩:=ze A;obtain ⟨W,L,X,K⟩:=ze E;obtain ⟨rfl,rfl⟩:=zF K;exact i1 _ _ _ _ G (ZR o hE)
  ·rw [ZO] at h
   obtain ⟨y,D,o,A⟩:=ze h;have M:=H _ _ _ _ o hE;have U:=QN he (i1 _ _ _ _ o hE)
   split at A
   ·exact N _ _ _ _ A (zS M) U
   ·obtain ⟨rfl,rfl⟩:=zF A;exact U
  ·rw [zw] at h
   obtain ⟨y,D,o,A⟩:=ze h;have M:=ZR o hE
   split at A
   ·obtain ⟨rfl,rfl⟩:=zF A;rfl
   ·obtain ⟨z,J,G,E⟩:=ze A
    obtain ⟨W,L,X,K⟩:=ze E;obtain ⟨rfl,rfl⟩:=zF K;exact N _ _ _ _ G M rfl
theorem X0 {s:List UInt8}:∀{a:Nat} {ts:List Tk},VF s a ts→∀t∈ts,QI s t
 | _,[],_,t,h=>by cases h
 | _,u::us,hp,t,h=>by
  rcases List.mem_cons.1 h with rfl | h
  ·exact hp.2.1
  ·exact X0 hp.2.2 t h
theorem uy (l:List UInt8):∀t∈(zn l).1,uv t∧WdT t:=by
 intro t o
 by_cases h:(zn l).2.2=0
 ·have D:=X0 ((Xe l).2 h).2.1 t o
  obtain ⟨-,-,E,-,G,z⟩:=D;refine ⟨⟨by omega,by omega⟩,fun h5=>?_⟩
  have A:Zv t.s=true:=by
   have e:=(yS (by rw [h5];decide) (by rw [h5];decide)).1 E
   rw [h5] at e;rcases e with e | e | e | e
   ·exact absurd e.1 (by decide)
   ·exact absurd e.1 (by decide)
   ·exact absurd e.1 (by decide)
   ·exact e.2.1
  have y:∀s,Zv s=true→s≠[45]∧s≠[33]:=fun s z=>by
   constructor <;> (rintro rfl;revert z;decide)
  exact y _ A
 ·rw [(Xe l).1 h] at o
  cases o
end Go.Proofs.YtmbofhpmockmbaaGreatDoor
