import Derived.Test.YtcphojjpapgblaaGreatDoorMC27
import Derived.Test.YtcphojjpapgblaaGreatDoorMC12
import Derived.Test.YtcphojjpapgblaaGreatDoorMC34
import Derived.Test.YtcphojjpapgblaaGreatDoorMC33
namespace Go.Proofs.YtcphojjpapgblaaGreatDoor
open Go.RowKit Go.Shelf
def Xa (fl fa:Nat→Nat) (t:Tk):Tk:=⟨t.k,t.s,t.n,fl t.line,fa t.at0⟩
mutual
def Xb (fl:Nat→Nat):Ex→Ex
 | .mk k s n kids line=>.mk k s n (YD fl kids) (fl line)
def YD (fl:Nat→Nat):List Ex→List Ex
 | []=>[]
 | x::xs=>Xb fl x::YD fl xs
end
mutual
def V1 (fl:Nat→Nat):St→St
 | .mk k s es b c line=>.mk k s (YD fl es) (yg fl b) (yg fl c) (fl line)
def yg (fl:Nat→Nat):List St→List St
 | []=>[]
 | x::xs=>V1 fl x::yg fl xs
end
def zg6 (fl:Nat→Nat) (x:Rc):Rc:=⟨x.name,x.fields,fl x.line⟩
def zfC (fl:Nat→Nat) (x:Fc):Fc:=⟨x.name,x.params,x.result,yg fl x.body,fl x.line⟩
def zg7 (fl:Nat→Nat) (x:Pg):Pg:=⟨x.recs.map (zg6 fl),x.funs.map (zfC fl)⟩
def Xr {α:Type} (g:α→α) (fl fa:Nat→Nat):Option (PR α)→Option (PR α)
 | none=>none
 | some (.error a)=>some (.error (fa a))
 | some (.ok (x,us))=>some (.ok (g x,us.map (Xa fl fa)))
theorem UZ (fl:Nat→Nat) (x:Ex):(Xb fl x).line=fl x.line:=by
 obtain ⟨k,s,n,kids,line⟩:=x;rw [Xb];rfl
theorem zfD (fl:Nat→Nat) (x:Ex):(Xb fl x).kind=x.kind:=by
 obtain ⟨k,s,n,kids,line⟩:=x;rw [Xb];rfl
theorem zg8 (fl:Nat→Nat) (a:List Ex) (x:Ex):YD fl (a++[x])=YD fl a++[Xb fl x]:=by
 induction a with
 | nil=>rfl
 | cons y ys ih=>rw [List.cons_append,YD,YD,ih];rfl
theorem zfE (fl:Nat→Nat) (a:List St) (x:St):yg fl (a++[x])=yg fl a++[V1 fl x]:=by
 induction a with
 | nil=>rfl
 | cons y ys ih=>rw [List.cons_append,yg,yg,ih];rfl
theorem Yh {fl fa:Nat→Nat} {ts:List Tk} (h:zi ts):zu (ts.map (Xa fl fa))=Xa fl fa (zu ts):=by
 obtain ⟨t,o,rfl⟩:=h.cons
 rfl
theorem Yr {fl fa:Nat→Nat} {ts:List Tk}:(ts.map (Xa fl fa)).tail=ts.tail.map (Xa fl fa):=by cases ts <;> rfl
theorem yy {fl fa:Nat→Nat} {t:Tk} {s:List UInt8}:zm (Xa fl fa t) s=zm t s:=rfl
theorem zD {α β:Type} {fl fa:Nat→Nat} {x x':Option (PR α)} {k k':α→List Tk→Option (PR β)} {g:α→α} {g':β→β} (hx:x'=Xr g fl fa x) (hk:∀y h,x=some (.ok (y,h))→k' (g y) (h.map (Xa fl fa))=Xr g' fl fa (k y h)):zh x' k'=Xr g' fl fa (zh x k):=by
 subst hx;cases x with
 | none=>rfl
 | some x =>
  cases x with
  | error a=>rfl
  | ok p=>obtain ⟨y,h⟩:=p;exact hk y h rfl
theorem ZX {fl fa:Nat→Nat} {s:List UInt8} {ts:List Tk} (h:zi ts):zR s (ts.map (Xa fl fa))=Xr id fl fa (zR s ts):=by
 unfold zR
 rw [Yh h,yy,Yr]
 split <;> rfl
theorem vd {fl fa:Nat→Nat} {ts:List Tk} (h:zi ts):Z6 (ts.map (Xa fl fa))=Xr id fl fa (Z6 ts):=by
 unfold Z6
 rw [Yh h,Yr,show (Xa fl fa (zu ts)).k=(zu ts).k from rfl]
 split <;> rfl
theorem zbu (fl fa:Nat→Nat) (f:Nat) :
  (∀least ts,zi ts→zg f least (ts.map (Xa fl fa))=Xr (Xb fl) fl fa (zg f least ts))∧(∀least e ts,zi ts→Zs f least (Xb fl e) (ts.map (Xa fl fa))=Xr (Xb fl) fl fa (Zs f least e ts)) ∧
  (∀ts,zi ts→Zm f (ts.map (Xa fl fa))=Xr (Xb fl) fl fa (Zm f ts))∧(∀e ts,zi ts→zx f (Xb fl e) (ts.map (Xa fl fa))=Xr (Xb fl) fl fa (zx f e ts))∧(∀ts,zi ts→zH f (ts.map (Xa fl fa))=Xr (Xb fl) fl fa (zH f ts)) ∧
  (∀pre ts,zi ts→Z1 f (YD fl pre) (ts.map (Xa fl fa))=Xr (YD fl) fl fa (Z1 f pre ts))∧(∀ts,zi ts→zG f (ts.map (Xa fl fa))=Xr (YD fl) fl fa (zG f ts)):=by
 induction f with
 | zero=>refine ⟨?_,?_,?_,?_,?_,?_,?_⟩ <;> intros <;> simp only [zg,Zs,Zm,zx,zH,Z1,zG,Xr]
 | succ f ih =>
  obtain ⟨G,N,R,I,U,L,Q⟩:=ih;obtain ⟨H,V,W,Y,T,O,X⟩:=Ze f;have D:∀(t:Tk),(Xa fl fa t).k=t.k∧(Xa fl fa t).s=t.s∧(Xa fl fa t).n=t.n∧(Xa fl fa t).line=fl t.line:=fun t=>⟨rfl,rfl,rfl,rfl⟩
  refine ⟨fun least ts hE=>?_,fun least e ts hE=>?_,fun ts hE=>?_,fun e ts hE=>?_,fun ts hE=>?_,fun pre ts hE=>?_,fun ts hE=>?_⟩
  ·rw [zg,zg]
   by_cases c:6<least
   ·rw [if_pos c,if_pos c];exact R ts hE
   ·rw [if_neg c,if_neg c]
    exact zD (G _ ts hE) fun y us h=>N _ y us (H _ _ _ _ h hE)
  ·rw [Zs,Zs,Yh hE,Yr,(D _).1,(D _).2.1]
   by_cases c:(zu ts).k=4∧levelOf (zu ts).s=least
   ·rw [if_pos c,if_pos c]
    have o:=Z2 hE (by omega)
    refine zD (G _ _ o) fun y us h=>?_
    have:=N least (.mk 7 (zu ts).s 0 [e,y] e.line) us (H _ _ _ _ h o)
    rw [Xb,YD,YD,YD] at this;rw [UZ];exact this
   ·rw [if_neg c,if_neg c];rfl
  ·rw [Zm,Zm,Yh hE,Yr,(D _).1,(D _).2.1,(D _).2.2.2]
   by_cases c:(zu ts).k=4∧((zu ts).s=[45]∨(zu ts).s=[33])
   ·rw [if_pos c,if_pos c]
    refine zD (R _ (Z2 hE (by omega))) fun y us h=>?_
    simp only [Xr,Xb,YD]
   ·rw [if_neg c,if_neg c]
    exact zD (U ts hE) fun y us h=>I y us (T _ _ _ h hE)
  ·rw [zx,zx,Yh hE,Yr,yy,yy]
   by_cases c:zm (zu ts) [91]=true
   ·rw [if_pos c,if_pos c]
    have o:=zA hE c;refine zD (G _ _ o) fun y us h=>?_
    have A:=H _ _ _ _ h o;refine zD (ZX A) fun z vs h2=>?_
    have:=I (.mk 8 [] 0 [e,y] e.line) vs (zZ h2 A)
    rw [Xb,YD,YD,YD] at this;rw [UZ];exact this
   rw [if_neg c,if_neg c]
   by_cases c:zm (zu ts) [46]=true
   ·rw [if_pos c,if_pos c]
    have o:=zA hE c;refine zD (vd o) fun y us h=>?_
    have:=I (.mk 9 y 0 [e] e.line) us (ZM h o)
    rw [Xb,YD,YD] at this;rw [UZ];exact this
   ·rw [if_neg c,if_neg c];rfl
  ·rw [zH,zH,Yh hE,Yr,(D _).1,(D _).2.1,(D _).2.2.1,(D _).2.2.2,yy,yy,yy,yy]
   by_cases c:(zu ts).k=2
   ·rw [if_pos c,if_pos c];simp only [Xr,Xb,YD]
   rw [if_neg c,if_neg c]
   by_cases c:(zu ts).k=3
   ·rw [if_pos c,if_pos c];simp only [Xr,Xb,YD]
   rw [if_neg c,if_neg c]
   by_cases c:(zu ts).k=1
   ·rw [if_pos c,if_pos c]
    have o:=Z2 hE (by omega)
    rw [Yh o,yy]
    by_cases d:zm (zu ts.tail) [40]=true
    ·rw [if_pos d,if_pos d]
     refine zD (Q _ o) fun y us h=>?_
     simp only [Xr,Xb]
    ·rw [if_neg d,if_neg d];simp only [Xr,Xb,YD]
   rw [if_neg c,if_neg c]
   by_cases c:zm (zu ts) [116,114,117,101]=true
   ·rw [if_pos c,if_pos c];simp only [Xr,Xb,YD]
   rw [if_neg c,if_neg c]
   by_cases c:zm (zu ts) [102,97,108,115,101]=true
   ·rw [if_pos c,if_pos c];simp only [Xr,Xb,YD]
   rw [if_neg c,if_neg c]
   by_cases c:zm (zu ts) [110,101,119]=true
   ·rw [if_pos c,if_pos c]
    have o:=zA hE c;refine zD (vd o) fun y us h=>?_
    have A:=ZM h o;refine zD (Q _ A) fun z vs h2=>?_
    simp only [Xr,Xb,id]
   rw [if_neg c,if_neg c]
   by_cases c:zm (zu ts) [91]=true
   ·rw [if_pos c,if_pos c]
    have o:=zA hE c;refine zD (L [] _ o) fun y us h=>?_
    have A:=O _ _ _ _ h o;refine zD (ZX A) fun z vs h2=>?_
    simp only [Xr,Xb]
   rw [if_neg c,if_neg c];refine zD (ZX hE) fun z vs h2=>?_
   have A:=zZ h2 hE;refine zD (G _ _ A) fun y us h=>?_
   have J:=H _ _ _ _ h A;exact zD (ZX J) fun z vs h4=>rfl
  ·rw [Z1,Z1]
   refine zD (G _ ts hE) fun y us h=>?_
   have o:=H _ _ _ _ h hE;rw [Yh o,Yr,yy,←zg8]
   by_cases c:zm (zu us) [44]=true
   ·rw [if_pos c,if_pos c];exact L _ _ (zA o c)
   ·rw [if_neg c,if_neg c];rfl
  ·rw [zG,zG]
   refine zD (ZX hE) fun z vs h2=>?_
   have o:=zZ h2 hE;rw [Yh o,Yr,yy]
   by_cases c:zm (zu vs) [41]=true
   ·rw [if_pos c,if_pos c];rfl
   ·rw [if_neg c,if_neg c]
    refine zD (L [] _ o) fun y us h=>?_
    exact zD (ZX (O _ _ _ _ h o)) fun z vs h4=>rfl
theorem zfF (fl:Nat→Nat) (e:Ex):Ym (Xb fl e)=Ym e:=by unfold Ym;rw [zfD]
theorem zg9 (fl fa:Nat→Nat) (f:Nat) :
  (∀ts,zi ts→Zg f (ts.map (Xa fl fa))=Xr (V1 fl) fl fa (Zg f ts))∧(∀ts,zi ts→zI f (ts.map (Xa fl fa))=Xr (yg fl) fl fa (zI f ts))∧(∀pre ts,zi ts→Zh f (yg fl pre) (ts.map (Xa fl fa))=Xr (yg fl) fl fa (Zh f pre ts)):=by
 induction f with
 | zero=>refine ⟨?_,?_,?_⟩ <;> intros <;> simp only [Zg,zI,Zh,Xr]
 | succ f ih =>
  obtain ⟨N,I,J⟩:=ih;obtain ⟨L,O,R⟩:=vB f;have G:=(zbu fl fa f).1;have H:=(Ze f).1;have Q:∀(t:Tk),(Xa fl fa t).line=fl t.line:=fun t=>rfl
  refine ⟨fun ts hE=>?_,fun ts hE=>?_,fun pre ts hE=>?_⟩
  ·rw [Zg,Zg,Yh hE,Yr,Q,yy,yy,yy,yy]
   by_cases c:zm (zu ts) [108,101,116]=true
   ·rw [if_pos c,if_pos c]
    have o:=zA hE c;refine zD (vd o) fun y us h=>?_
    have A:=ZM h o;refine zD (ZX A) fun z vs h2=>?_
    have D:=zZ h2 A;refine zD (G _ _ D) fun e xs h3=>?_
    refine zD (ZX (H _ _ _ _ h3 D)) fun z ys h4=>?_
    simp only [Xr,V1,YD,yg,id]
   rw [if_neg c,if_neg c]
   by_cases c:zm (zu ts) [105,102]=true
   ·rw [if_pos c,if_pos c]
    have o:=zA hE c;refine zD (G _ _ o) fun e us h=>?_
    have A:=H _ _ _ _ h o;refine zD (I _ A) fun b vs h2=>?_
    have D:=O _ _ _ h2 A;rw [Yh D,Yr,yy]
    by_cases d:zm (zu vs) [101,108,115,101]=true
    ·rw [if_pos d,if_pos d]
     refine zD (I _ (zA D d)) fun c xs h3=>?_
     simp only [Xr,V1,YD]
    ·rw [if_neg d,if_neg d]
     simp only [Xr,V1,YD,yg]
   rw [if_neg c,if_neg c]
   by_cases c:zm (zu ts) [119,104,105,108,101]=true
   ·rw [if_pos c,if_pos c]
    have o:=zA hE c;refine zD (G _ _ o) fun e us h=>?_
    refine zD (I _ (H _ _ _ _ h o)) fun b vs h2=>?_
    simp only [Xr,V1,YD,yg]
   rw [if_neg c,if_neg c]
   by_cases c:zm (zu ts) [114,101,116,117,114,110]=true
   ·rw [if_pos c,if_pos c]
    have o:=zA hE c;rw [Yh o,Yr,yy]
    by_cases d:zm (zu ts.tail) [59]=true
    ·rw [if_pos d,if_pos d]
     simp only [Xr,V1,YD,yg]
    ·rw [if_neg d,if_neg d]
     refine zD (G _ _ o) fun e us h=>?_
     refine zD (ZX (H _ _ _ _ h o)) fun z ys h4=>?_
     simp only [Xr,V1,YD,yg]
   rw [if_neg c,if_neg c];refine zD (G _ _ hE) fun e us h=>?_
   have A:=H _ _ _ _ h hE;rw [Yh A,Yr,yy,zfF]
   by_cases c:zm (zu us) [61]=true
   ·rw [if_pos c,if_pos c]
    by_cases d:Ym e=true
    ·rw [if_pos d,if_pos d]
     have D:=zA A c;refine zD (G _ _ D) fun e2 vs h3=>?_
     refine zD (ZX (H _ _ _ _ h3 D)) fun z ys h4=>?_
     simp only [Xr,V1,YD,yg]
    ·rw [if_neg d,if_neg d];rfl
   ·rw [if_neg c,if_neg c]
    refine zD (ZX A) fun z ys h4=>?_
    simp only [Xr,V1,YD,yg]
  ·rw [zI,zI]
   exact zD (ZX hE) fun z us h=>J [] us (zZ h hE)
  ·rw [Zh,Zh,Yh hE,Yr,yy]
   by_cases c:zm (zu ts) [125]=true
   ·rw [if_pos c,if_pos c];rfl
   ·rw [if_neg c,if_neg c]
    refine zD (N _ hE) fun x us h=>?_
    rw [←zfE];exact J _ _ (L _ _ _ h hE)
def mvX {α:Type} (fl fa:Nat→Nat):PR α→PR α
 | .error a=>.error (fa a)
 | .ok (x,us)=>.ok (x,us.map (Xa fl fa))
theorem zej {fl fa:Nat→Nat} {n:Nat}:∀{ts:List Tk},zi ts→ZT n (ts.map (Xa fl fa))=(match ZT n ts with | .error a=>.error (fa a) | .ok us=>.ok (us.map (Xa fl fa))):=by
 induction n with
 | zero=>intro ts _;rfl
 | succ n ih =>
  intro ts h;rw [ZT,ZT,Yh h,Yr,yy]
  by_cases c:zm (zu ts) [93]=true
  ·rw [if_pos c,if_pos c];exact ih (zA h c)
  ·rw [if_neg c,if_neg c];rfl
theorem U0 {fl fa:Nat→Nat}:∀(ts:List Tk) (k:Nat),zi ts→ZK k (ts.map (Xa fl fa))=mvX fl fa (ZK k ts)
 | [],k,hE=>absurd hE (by simp [zi])
 | t::ts,k,hE=>by
  rw [List.map_cons,ZK,ZK,yy]
  by_cases c:zm t [91]=true
  ·rw [if_pos c,if_pos c];exact U0 ts (k+1) (hE.tail (zk c))
  rw [if_neg c,if_neg c,show (Xa fl fa t).k=t.k from rfl]
  by_cases c:t.k=1
  ·rw [if_pos c,if_pos c,zej (hE.tail (by omega))]
   cases ZT k ts <;> rfl
  ·rw [if_neg c,if_neg c];rfl
theorem zek {fl fa:Nat→Nat} {ts:List Tk} (hE:zi ts):Z9 (ts.map (Xa fl fa))=mvX fl fa (Z9 ts):=by
 unfold Z9
 rw [Yh hE,show (Xa fl fa (zu ts)).k=(zu ts).k from rfl]
 by_cases c:(zu ts).k=1
 ·have h:=Z2 hE (by omega)
  rw [if_pos c,if_pos c,Yr,Yh h,yy,Yr]
  by_cases d:zm (zu ts.tail) [58]=true
  ·rw [if_pos d,if_pos d,U0 _ _ (zA h d)]
   cases ZK 0 ts.tail.tail <;> rfl
  ·rw [if_neg d,if_neg d];rfl
 ·rw [if_neg c,if_neg c];rfl
theorem um {fl fa:Nat→Nat}:∀(f:Nat) (pre:List Pm) (ts:List Tk),zi ts→zP f pre (ts.map (Xa fl fa))=Xr id fl fa (zP f pre ts)
 | 0,_,_,_=>rfl
 | f+1,pre,ts,hE=>by
  rw [zP,zP,zek hE];cases hp:Z9 ts with
  | error a=>rfl
  | ok q =>
   obtain ⟨p,o⟩:=q;have h:=(YX hp hE).1;simp only [mvX];rw [Yh h,yy,Yr]
   by_cases c:zm (zu o) [44]=true
   ·rw [if_pos c,if_pos c];exact um f _ _ (zA h c)
   ·rw [if_neg c,if_neg c];rfl
theorem zha {fl fa:Nat→Nat} {f:Nat} {ts:List Tk} (hE:zi ts):yw f (ts.map (Xa fl fa))=Xr id fl fa (yw f ts):=by
 unfold yw
 refine zD (ZX hE) fun z us h=>?_
 have o:=zZ h hE;rw [Yh o,yy,Yr]
 by_cases c:zm (zu us) [41]=true
 ·rw [if_pos c,if_pos c];rfl
 ·rw [if_neg c,if_neg c]
  refine zD (um _ _ _ o) fun y vs h2=>?_
  exact zD (ZX (Yb h2 o)) fun z ys h4=>rfl
theorem zir {fl fa:Nat→Nat} {ts:List Tk} (hE:zi ts):Xk (ts.map (Xa fl fa))=Xr id fl fa (Xk ts):=by
 unfold Xk
 rw [Yh hE,yy,Yr]
 by_cases c:zm (zu ts) [58]=true
 ·rw [if_pos c,if_pos c,U0 _ _ (zA hE c)]
  cases ZK 0 ts.tail <;> rfl
 ·rw [if_neg c,if_neg c];rfl
theorem zhb {fl fa:Nat→Nat} {f line:Nat} {ts:List Tk} (hE:zi ts):ZZ f (fl line) (ts.map (Xa fl fa))=Xr (zfC fl) fl fa (ZZ f line ts):=by
 unfold ZZ
 refine zD (vd hE) fun s us h=>?_
 have o:=ZM h hE;refine zD (zha o) fun l vs h2=>?_
 have y:=xx h2 o;refine zD (zir y) fun t xs h3=>?_
 refine zD ((zg9 fl fa f).2.1 _ (Qm h3 y)) fun b ys h4=>?_
 rfl
theorem zel {fl fa:Nat→Nat} {f line:Nat} {ts:List Tk} (hE:zi ts):Zq f (fl line) (ts.map (Xa fl fa))=Xr (zg6 fl) fl fa (Zq f line ts):=by
 unfold Zq
 refine zD (vd hE) fun s us h=>?_
 have o:=ZM h hE;refine zD (ZX o) fun z vs h2=>?_
 have y:=zZ h2 o;refine zD (um _ _ _ y) fun l xs h3=>?_
 exact zD (ZX (Yb h3 y)) fun z ys h4=>rfl
theorem zad (fl fa:Nat→Nat):∀(f:Nat) (rs:List Rc) (fs:List Fc) (ts:List Tk),zi ts→Zp f (rs.map (zg6 fl)) (fs.map (zfC fl)) (ts.map (Xa fl fa))=Xr (zg7 fl) fl fa (Zp f rs fs ts)
 | 0,_,_,_,_=>rfl
 | f+1,rs,fs,ts,hE=>by
  rw [Zp,Zp,Yh hE,Yr,yy,yy,show (Xa fl fa (zu ts)).k=(zu ts).k from rfl,show (Xa fl fa (zu ts)).line=fl (zu ts).line from rfl]
  by_cases c:(zu ts).k=0
  ·rw [if_pos c,if_pos c];rfl
  rw [if_neg c,if_neg c]
  by_cases c:zm (zu ts) [114,101,99,111,114,100]=true
  ·rw [if_pos c,if_pos c]
   have o:=zA hE c;refine zD (zel o) fun x us h=>?_
   have:=zad fl fa f (rs++[x]) fs us (Yx h o)
   rw [List.map_append] at this;exact this
  rw [if_neg c,if_neg c]
  by_cases c:zm (zu ts) [102,110]=true
  ·rw [if_pos c,if_pos c]
   have o:=zA hE c;refine zD (zhb o) fun x us h=>?_
   have:=zad fl fa f rs (fs++[x]) us (xy h o)
   rw [List.map_append] at this;exact this
  ·rw [if_neg c,if_neg c];rfl
structure TT where
 k:Int
 n:Int
 s:List UInt8
def zem (t:TT):Prop:=yr t.k t.n t.s∧t.k≠0∧t.n≤9223372036854775807
theorem uo {x:Nat} (hx:Zx x=true):Zw x=false∧x≠47∧zV x=false:=by
 unfold Zx at hx
 rw [Bool.and_eq_true,decide_eq_true_eq,decide_eq_true_eq] at hx;refine ⟨?_,by omega,?_⟩
 ·unfold Zw
  rw [Bool.or_eq_false_iff,Bool.or_eq_false_iff];refine ⟨⟨by rw [beq_eq_false_iff_ne];omega,?_⟩,?_⟩ <;> (rw [Bool.and_eq_false_iff,decide_eq_false_iff_not,decide_eq_false_iff_not];omega)
 ·unfold zV
  rw [Bool.or_eq_false_iff,Bool.or_eq_false_iff];exact ⟨⟨by rw [beq_eq_false_iff_ne];omega,by rw [beq_eq_false_iff_ne];omega⟩,by rw [beq_eq_false_iff_ne];omega⟩
theorem U1 {x:Nat} (hx:Zw x=true):x≠47∧zV x=false:=by
 unfold Zw at hx
 rw [Bool.or_eq_true,Bool.or_eq_true,beq_iff_eq,Bool.and_eq_true,Bool.and_eq_true,decide_eq_true_eq,decide_eq_true_eq,decide_eq_true_eq,decide_eq_true_eq] at hx;refine ⟨by omega,?_⟩
 unfold zV
 rw [Bool.or_eq_false_iff,Bool.or_eq_false_iff];exact ⟨⟨by rw [beq_eq_false_iff_ne];omega,by rw [beq_eq_false_iff_ne];omega⟩,by rw [beq_eq_false_iff_ne];omega⟩
theorem zae {c:UInt8} {t:List UInt8} (hb:zV c.toNat=false) (h47:c.toNat≠47):Z0 (c::t)=0:=by
 refine zaU hb ?_;rw [zd1,decide_eq_false h47]
 rfl
def erT (t:Tk):Tk:=⟨t.k,t.s,t.n,0,0⟩
def erR (r:TR):Tk:=⟨r.k,r.s,r.n,0,0⟩
def xG:Nat→List UInt8→Option (List Tk)
 | 0,_=>none
 | f+1,l =>
  if (Zb (l.drop (Z0 l))).e≠0 then none
  else if (Zb (l.drop (Z0 l))).k=0 then some [erR (Zb (l.drop (Z0 l)))]
  else (xG f ((l.drop (Z0 l)).drop (Zb (l.drop (Z0 l))).sz)).map fun ts=>erR (Zb (l.drop (Z0 l)))::ts
theorem zcD (l:List UInt8) (a:Nat):zQ l a=Zb ((l.drop a).drop (Z0 (l.drop a))):=by
 unfold zQ
 rw [List.drop_drop]
theorem Qu (l:List UInt8):∀(f line a:Nat) (ts:List Tk),xG f (l.drop a)=some ts→(scanS l f line a).2.2=0∧(scanS l f line a).1.map erT=ts
 | 0,_,_,_,h=>by simp [xG] at h
 | f+1,line,a,ts,h=>by
  rw [xG,←zcD] at h;rw [scanS]
  by_cases he:(zQ l a).e≠0
  ·rw [if_pos he] at h;cases h
  rw [if_neg he] at h ⊢
  by_cases hk:(zQ l a).k=0
  ·rw [if_pos hk] at h ⊢
   obtain rfl:=Option.some.inj h;exact ⟨rfl,rfl⟩
  rw [if_neg hk] at h ⊢
  have hd:((l.drop a).drop (Z0 (l.drop a))).drop (zQ l a).sz=l.drop (zO l a+(zQ l a).sz):=by
   unfold zO
   rw [List.drop_drop,List.drop_drop,Nat.add_assoc]
  rw [hd] at h;cases hr:xG f (l.drop (zO l a+(zQ l a).sz)) with
  | none=>rw [hr] at h;cases h
  | some us =>
   rw [hr] at h;simp only [Option.map_some,Option.some.injEq] at h;subst h;obtain ⟨y,o⟩:=Qu l f (yd l line a) (zO l a+(zQ l a).sz) us hr;rw [if_neg (by omega)]
   exact ⟨rfl,by rw [List.map_cons,o];rfl⟩
theorem Qv:∀(f g:Nat) (l ts:_),xG f l=some ts→l.length<g→xG g l=some ts
 | 0,_,_,_,h,_=>by simp [xG] at h
 | f+1,0,_,_,_,h=>by omega
 | f+1,g+1,l,ts,h,hg=>by
  rw [xG] at h ⊢
  by_cases he:(Zb (l.drop (Z0 l))).e≠0
  ·rw [if_pos he] at h;cases h
  rw [if_neg he] at h ⊢
  by_cases hk:(Zb (l.drop (Z0 l))).k=0
  ·rw [if_pos hk] at h ⊢;exact h
  rw [if_neg hk] at h ⊢;have z:=(vz (l.drop (Z0 l)) (by omega)).2.1 hk
  cases hr:xG f ((l.drop (Z0 l)).drop (Zb (l.drop (Z0 l))).sz) with
  | none=>rw [hr] at h;cases h
  | some us =>
   rw [hr] at h
   have o:((l.drop (Z0 l)).drop (Zb (l.drop (Z0 l))).sz).length<g:=by
    have y:=(vz (l.drop (Z0 l)) (by omega)).1
    simp only [List.length_drop] at y ⊢;omega
   rw [Qv f g _ us hr o];exact h
theorem Qw {l:List UInt8} {f:Nat} {ts:List Tk} (hl:l.length≤4096) (h:xG f l=some ts):(zW l).2.2=0∧(zW l).1.map erT=ts:=by
 unfold zW
 rw [if_neg (by omega)]
 exact Qu l (l.length+1) 1 0 ts (by rw [List.drop_zero];exact Qv f _ l ts h (by omega))
theorem zhc {c:UInt8} (hc:zV c.toNat=true) (m:List UInt8):Z0 (c::m)=1+Z0 m:=by
 rw [vy,vy m]
 have h:Z3 zV (c::m)=1+Z3 zV m:=by
  unfold Z3
  rw [List.takeWhile_cons_of_pos (p:=fun c:UInt8=>zV c.toNat) hc,List.length_cons,Nat.add_comm]
 rw [h,Nat.add_comm 1 (Z3 zV m),List.drop_succ_cons];omega
theorem zcE {c:UInt8} (hc:zV c.toNat=true) (f:Nat) (m:List UInt8):xG f (c::m)=xG f m:=by
 cases f with
 | zero=>rfl
 | succ f=>rw [xG,xG,zhc hc,Nat.add_comm 1 (Z0 m),List.drop_succ_cons]
def zi9 (k:Int) (m:List UInt8):Prop:=∀c,m.head?=some c→(k=4→c≠61∧c≠38∧c≠124∧c≠47)∧(k≠4→k≠3→ym c.toNat=false)
theorem Qx {x m:List UInt8} (hx:x.all (fun c=>ym c.toNat)=true) (hm:∀c,m.head?=some c→ym c.toNat=false):Z4 (x++m)=x:=by
 unfold Z4
 rw [xX m _ (by rw [Yj _ (fun c hc=>List.all_eq_true.1 hx c hc)])]
 cases m with
 | nil=>simp
 | cons c m=>rw [List.takeWhile_cons_of_neg (by rw [hm c rfl];decide),List.append_nil]
theorem vh:∀x∈signsL,(∃p,x=[p])∨∃p q,x=[p,q]∧(q=61∨q=38∨q=124):=by
 intro x h;simp only [signsL,List.mem_cons,List.not_mem_nil,or_false] at h;rcases h with rfl | rfl | rfl | rfl | rfl | rfl | rfl | rfl | rfl | rfl | rfl | rfl | rfl | rfl | rfl | rfl | rfl | rfl | rfl | rfl | rfl | rfl | rfl | rfl | rfl
 all_goals first
  | exact .inl ⟨_,rfl⟩
  | exact .inr ⟨_,_,rfl,by decide⟩
theorem zfG {s m:List UInt8} (hs:s∈signsL) (hm:∀c,m.head?=some c→c≠61∧c≠38∧c≠124):bestS (s++m) 25=s:=by
 have I:∀x∈signsL,Lib.hasPrefix (s++m) x=Lib.hasPrefix s x:=by
  intro x z
  unfold Lib.hasPrefix
  cases m with
  | nil=>rw [List.append_nil]
  | cons c m =>
   obtain ⟨c1,c2,J⟩:=hm c rfl;rcases vh s hs with ⟨a,rfl⟩ | ⟨a,b,rfl,-⟩ <;> rcases vh x z with ⟨p,rfl⟩ | ⟨p,q,rfl,G⟩
   ·simp [List.isPrefixOf]
   ·have D:(q==c)=false:=by
     rw [beq_eq_false_iff_ne];rcases G with rfl | rfl | rfl
     ·exact fun e=>c1 e.symm
     ·exact fun e=>c2 e.symm
     ·exact fun e=>J e.symm
    simp [List.isPrefixOf,D]
   ·simp [List.isPrefixOf]
   ·simp [List.isPrefixOf]
 have A:∀(o:List (List UInt8)) (b:List UInt8),(∀x∈o,x∈signsL)→o.foldl (longer (s++m)) b=o.foldl (longer s) b:=by
  intro o
  induction o with
  | nil=>intro b _;rfl
  | cons x o ih =>
   intro b h
   have H:longer (s++m) b x=longer s b x:=by
    unfold longer
    rw [I x (h x (List.mem_cons_self ..))]
   rw [List.foldl_cons,List.foldl_cons,H,ih _ (fun y hy=>h y (List.mem_cons_of_mem _ hy))]
 have:=A (signsL.take 25) [] (fun x z=>List.mem_of_mem_take z)
 unfold bestS
 rw [this];exact Qt s hs
theorem zhd {t:TT} (h:zem t) (m:List UInt8) (hm:zi9 t.k m) :
  Zb (xL t.k t.n t.s++m)=⟨t.k.toNat,t.s,t.n.toNat,(xL t.k t.n t.s).length,0⟩∧Z0 (xL t.k t.n t.s++m)=0∧0≤t.k∧0≤t.n:=by
 obtain ⟨k,n,s⟩:=t;obtain ⟨O,V,X⟩:=h;simp only at O V X hm ⊢
 by_cases h2:k=2
 ·subst h2
  obtain ⟨rfl,R⟩:=(UY X).1 O
  have J:xL 2 n []=Lib.decDigits n.toNat:=by
   show Lib.itoa n=_
   unfold Lib.itoa
   rw [if_neg (by omega)]
  rw [J];refine ⟨zbs n.toNat (by omega) m (fun x hx=>?_),?_,by decide,R⟩
  ·have:=(hm x (by simpa using hx)).2 (by decide) (by decide)
   unfold ym at this
   rw [Bool.or_eq_false_iff] at this;exact this.2
  ·cases hd:Lib.decDigits n.toNat with
   | nil=>exact absurd hd (zcB _)
   | cons c r =>
    have o:=uo (Uj n.toNat c (by rw [hd];exact List.mem_cons_self ..))
    rw [List.cons_append];exact zae o.2.2 o.2.1
 ·by_cases h3:k=3
  ·subst h3
   obtain ⟨Y,rfl⟩:=uk.1 O;have J:xL 3 0 s=Z7 s:=rfl;rw [J];refine ⟨Vb s m Y,?_,by decide,by decide⟩
   unfold Z7
   rw [List.cons_append];exact zae (by decide) (by decide)
  ·have J:xL k n s=s:=by unfold xL;rw [if_neg h2,if_neg h3]
   rw [J];rcases (ZV h2 h3).1 O with ⟨h0,-⟩ | ⟨rfl,z,rfl⟩ | ⟨rfl,z,rfl⟩ | ⟨rfl,z,rfl⟩
   ·exact absurd h0 V
   ·have y:∀c,m.head?=some c→ym c.toNat=false:=fun c o=>(hm c o).2 (by decide) (by decide)
    cases s with
    | nil=>simp [xF] at z
    | cons c r =>
     unfold xF at z
     simp only at z;rw [Bool.and_eq_true,Bool.and_eq_true,Bool.and_eq_true,decide_eq_true_eq] at z;obtain ⟨⟨⟨D,N⟩,Q⟩,W⟩:=z;have Z:(c::r).all (fun c=>ym c.toNat)=true:=by rw [List.all_cons,N,Bool.and_true];simp [ym,D]
     have o:=U1 D;have A:=Qx Z y;refine ⟨?_,by rw [List.cons_append];exact zae o.2 o.1,by decide,by decide⟩
     rw [List.cons_append] at A ⊢;rw [yZ D]
     unfold Yf
     rw [A,if_neg (by intro e;rw [e] at Q;cases Q),if_neg (by omega)]
     rfl
   ·have y:=fun c o=>(hm c o).1 rfl
    obtain ⟨c,r,I,D,N,Q,W⟩:=Qs s z;have H:bestS (s++m) 25=s:=zfG z fun c o=>⟨(y c o).1,(y c o).2.1,(y c o).2.2.1⟩
    have G:XR (s++m)=false:=by
     cases m with
     | nil =>
      have L:∀x∈signsL,XR x=false:=by decide
      rw [List.append_nil];exact L s z
     | cons d m =>
      obtain ⟨-,-,-,d4⟩:=y d rfl;have hd:(47==d)=false:=by rw [beq_eq_false_iff_ne];exact fun e=>d4 e.symm
      unfold XR Lib.hasPrefix
      rcases vh s z with ⟨a,rfl⟩ | ⟨a,b,rfl,T⟩
      ·simp [List.isPrefixOf,hd]
      ·have U:(47==b)=false:=by rcases T with rfl | rfl | rfl <;> decide
       simp [List.isPrefixOf,U]
    rw [I] at H G ⊢;refine ⟨?_,by rw [List.cons_append] at G ⊢;exact zaU W G,by decide,by decide⟩
    rw [List.cons_append] at H ⊢;rw [xj D N Q]
    unfold Yu
    rw [H,if_neg (by simp)]
    rfl
   ·have y:∀c,m.head?=some c→ym c.toNat=false:=fun c o=>(hm c o).2 (by decide) (by decide)
    obtain ⟨c,r,I,D,N⟩:=uR s (by unfold yh at z;exact List.contains_iff_mem.1 z)
    subst I;have o:=U1 D;have A:=Qx N y;refine ⟨?_,by rw [List.cons_append];exact zae o.2 o.1,by decide,by decide⟩
    rw [List.cons_append] at A ⊢;rw [yZ D]
    unfold Yf
    rw [A,if_pos z]
    rfl
def ttT (t:TT):Tk:=⟨t.k.toNat,t.s,t.n.toNat,0,0⟩
theorem zfH {t:TT} (h:zem t) {m:List UInt8} (hm:zi9 t.k m) {f:Nat} {ts:List Tk} (hf:xG f m=some ts):xG (f+1) (xL t.k t.n t.s++m)=some (ttT t::ts):=by
 obtain ⟨y,o,D,A⟩:=zhd h m hm;have z:¬ t.k.toNat=0:=by have:=h.2.1;omega
 rw [xG,o,List.drop_zero,y];simp only;rw [if_neg (by simp),if_neg z,List.drop_append_of_le_length (Nat.le_refl _),List.drop_length,List.nil_append,hf]
 rfl
end Go.Proofs.YtcphojjpapgblaaGreatDoor
