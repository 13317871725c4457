import Derived.Test.YtpejpbbdgblbeaaGreatDoorMC29
import Derived.Test.YtpejpbbdgblbeaaGreatDoorMC31
import Derived.Test.YtpejpbbdgblbeaaGreatDoorMC39
import Derived.Test.YtpejpbbdgblbeaaGreatDoorMC38
namespace Go.Proofs.YtpejpbbdgblbeaaGreatDoor
open Go.RowKit Go.Shelf
def Xb (fl fa:Nat→Nat) (t:Tk):Tk:=⟨t.k,t.s,t.n,fl t.line,fa t.at0⟩
mutual
def Xs (fl:Nat→Nat):Ex→Ex
 | .mk k s n kids line=>.mk k s n (YZ fl kids) (fl line)
def YZ (fl:Nat→Nat):List Ex→List Ex
 | []=>[]
 | x::xs=>Xs fl x::YZ fl xs
end
mutual
def uU (fl:Nat→Nat):St→St
 | .mk k s es b c line=>.mk k s (YZ fl es) (yA fl b) (yA fl c) (fl line)
def yA (fl:Nat→Nat):List St→List St
 | []=>[]
 | x::xs=>uU fl x::yA fl xs
end
def zgR (fl:Nat→Nat) (x:Rc):Rc:=⟨x.name,x.fields,fl x.line⟩
def zfu (fl:Nat→Nat) (x:Fc):Fc:=⟨x.name,x.params,x.result,yA fl x.body,fl x.line⟩
def qE (fl:Nat→Nat) (x:Pg):Pg:=⟨x.recs.map (zgR fl),x.funs.map (zfu fl)⟩
def Xt {α:Type} (g:α→α) (fl fa:Nat→Nat):Option (PR α)→Option (PR α)
 | none=>none
 | some (.error a)=>some (.error (fa a))
 | some (.ok (x,us))=>some (.ok (g x,us.map (Xb fl fa)))
theorem UZ (fl:Nat→Nat) (x:Ex):(Xs fl x).line=fl x.line:=by
 obtain ⟨k,s,n,kids,line⟩:=x;rw [Xs];rfl
theorem zfv (fl:Nat→Nat) (x:Ex):(Xs fl x).kind=x.kind:=by
 obtain ⟨k,s,n,kids,line⟩:=x;rw [Xs];rfl
theorem zgS (fl:Nat→Nat) (a:List Ex) (x:Ex):YZ fl (a++[x])=YZ fl a++[Xs fl x]:=by
 induction a with
 | nil=>rfl
 | cons y ys ih=>rw [List.cons_append,YZ,YZ,ih];rfl
theorem zfw (fl:Nat→Nat) (a:List St) (x:St):yA fl (a++[x])=yA fl a++[uU fl x]:=by
 induction a with
 | nil=>rfl
 | cons y ys ih=>rw [List.cons_append,yA,yA,ih];rfl
theorem Yg {fl fa:Nat→Nat} {ts:List Tk} (h:zi ts):zv (ts.map (Xb fl fa))=Xb fl fa (zv ts):=by
 obtain ⟨t,o,rfl⟩:=h.cons
 rfl
theorem Ys {fl fa:Nat→Nat} {ts:List Tk}:(ts.map (Xb fl fa)).tail=ts.tail.map (Xb fl fa):=by cases ts <;> rfl
theorem yB {fl fa:Nat→Nat} {t:Tk} {s:List UInt8}:zm (Xb fl fa t) s=zm t s:=rfl
theorem zF {α β:Type} {fl fa:Nat→Nat} {x x':Option (PR α)} {k k':α→List Tk→Option (PR β)} {g:α→α} {g':β→β} (hx:x'=Xt g fl fa x) (hk:∀y h,x=some (.ok (y,h))→k' (g y) (h.map (Xb fl fa))=Xt g' fl fa (k y h)):zh x' k'=Xt g' fl fa (zh x k):=by
 subst hx;cases x with
 | none=>rfl
 | some x =>
  cases x with
  | error a=>rfl
  | ok p=>obtain ⟨y,h⟩:=p;exact hk y h rfl
theorem Z0 {fl fa:Nat→Nat} {s:List UInt8} {ts:List Tk} (h:zi ts):zR s (ts.map (Xb fl fa))=Xt id fl fa (zR s ts):=by
 unfold zR
 rw [Yg h,yB,Ys]
 split <;> rfl
theorem vz {fl fa:Nat→Nat} {ts:List Tk} (h:zi ts):Z3 (ts.map (Xb fl fa))=Xt id fl fa (Z3 ts):=by
 unfold Z3
 rw [Yg h,Ys,show (Xb fl fa (zv ts)).k=(zv ts).k from rfl]
 split <;> rfl
theorem zfx (fl fa:Nat→Nat) (f:Nat) :
  (∀least ts,zi ts→zf f least (ts.map (Xb fl fa))=Xt (Xs fl) fl fa (zf f least ts))∧(∀least e ts,zi ts→Zp f least (Xs fl e) (ts.map (Xb fl fa))=Xt (Xs fl) fl fa (Zp f least e ts)) ∧
  (∀ts,zi ts→Zg f (ts.map (Xb fl fa))=Xt (Xs fl) fl fa (Zg f ts))∧(∀e ts,zi ts→zw f (Xs fl e) (ts.map (Xb fl fa))=Xt (Xs fl) fl fa (zw f e ts))∧(∀ts,zi ts→zC f (ts.map (Xb fl fa))=Xt (Xs fl) fl fa (zC f ts)) ∧
  (∀pre ts,zi ts→ZY f (YZ fl pre) (ts.map (Xb fl fa))=Xt (YZ fl) fl fa (ZY f pre ts))∧(∀ts,zi ts→zA f (ts.map (Xb fl fa))=Xt (YZ fl) fl fa (zA f ts)):=by
 induction f with
 | zero=>refine ⟨?_,?_,?_,?_,?_,?_,?_⟩ <;> intros <;> simp only [zf,Zp,Zg,zw,zC,ZY,zA,Xt]
 | succ f ih =>
  obtain ⟨H,O,N,L,U,I,R⟩:=ih;obtain ⟨G,V,W,Z,T,Q,Y⟩:=Zi f;have D:∀(t:Tk),(Xb fl fa t).k=t.k∧(Xb fl fa t).s=t.s∧(Xb fl fa t).n=t.n∧(Xb fl fa t).line=fl t.line:=fun t=>⟨rfl,rfl,rfl,rfl⟩
  refine ⟨fun least ts hE=>?_,fun least e ts hE=>?_,fun ts hE=>?_,fun e ts hE=>?_,fun ts hE=>?_,fun pre ts hE=>?_,fun ts hE=>?_⟩
  ·rw [zf,zf]
   by_cases c:6<least
   ·rw [if_pos c,if_pos c];exact N ts hE
   ·rw [if_neg c,if_neg c]
    exact zF (H _ ts hE) fun y us h=>O _ y us (G _ _ _ _ h hE)
  ·rw [Zp,Zp,Yg hE,Ys,(D _).1,(D _).2.1]
   by_cases c:(zv ts).k=4∧levelOf (zv ts).s=least
   ·rw [if_pos c,if_pos c]
    have o:=Z5 hE (by omega)
    refine zF (H _ _ o) fun y us h=>?_
    have:=O least (.mk 7 (zv ts).s 0 [e,y] e.line) us (G _ _ _ _ h o)
    rw [Xs,YZ,YZ,YZ] at this;rw [UZ];exact this
   ·rw [if_neg c,if_neg c];rfl
  ·rw [Zg,Zg,Yg hE,Ys,(D _).1,(D _).2.1,(D _).2.2.2]
   by_cases c:(zv ts).k=4∧((zv ts).s=[45]∨(zv ts).s=[33])
   ·rw [if_pos c,if_pos c]
    refine zF (N _ (Z5 hE (by omega))) fun y us h=>?_
    simp only [Xt,Xs,YZ]
   ·rw [if_neg c,if_neg c]
    exact zF (U ts hE) fun y us h=>L y us (T _ _ _ h hE)
  ·rw [zw,zw,Yg hE,Ys,yB,yB]
   by_cases c:zm (zv ts) [91]=true
   ·rw [if_pos c,if_pos c]
    have o:=zD hE c;refine zF (H _ _ o) fun y us h=>?_
    have A:=G _ _ _ _ h o;refine zF (Z0 A) fun z vs h2=>?_
    have:=L (.mk 8 [] 0 [e,y] e.line) vs (zY h2 A)
    rw [Xs,YZ,YZ,YZ] at this;rw [UZ];exact this
   rw [if_neg c,if_neg c]
   by_cases c:zm (zv ts) [46]=true
   ·rw [if_pos c,if_pos c]
    have o:=zD hE c;refine zF (vz o) fun y us h=>?_
    have:=L (.mk 9 y 0 [e] e.line) us (ZM h o)
    rw [Xs,YZ,YZ] at this;rw [UZ];exact this
   ·rw [if_neg c,if_neg c];rfl
  ·rw [zC,zC,Yg hE,Ys,(D _).1,(D _).2.1,(D _).2.2.1,(D _).2.2.2,yB,yB,yB,yB]
   by_cases c:(zv ts).k=2
   ·rw [if_pos c,if_pos c];simp only [Xt,Xs,YZ]
   rw [if_neg c,if_neg c]
   by_cases c:(zv ts).k=3
   ·rw [if_pos c,if_pos c];simp only [Xt,Xs,YZ]
   rw [if_neg c,if_neg c]
   by_cases c:(zv ts).k=1
   ·rw [if_pos c,if_pos c]
    have o:=Z5 hE (by omega)
    rw [Yg o,yB]
    by_cases d:zm (zv ts.tail) [40]=true
    ·rw [if_pos d,if_pos d]
     refine zF (R _ o) fun y us h=>?_
     simp only [Xt,Xs]
    ·rw [if_neg d,if_neg d];simp only [Xt,Xs,YZ]
   rw [if_neg c,if_neg c]
   by_cases c:zm (zv ts) [116,114,117,101]=true
   ·rw [if_pos c,if_pos c];simp only [Xt,Xs,YZ]
   rw [if_neg c,if_neg c]
   by_cases c:zm (zv ts) [102,97,108,115,101]=true
   ·rw [if_pos c,if_pos c];simp only [Xt,Xs,YZ]
   rw [if_neg c,if_neg c]
   by_cases c:zm (zv ts) [110,101,119]=true
   ·rw [if_pos c,if_pos c]
    have o:=zD hE c;refine zF (vz o) fun y us h=>?_
    have A:=ZM h o;refine zF (R _ A) fun z vs h2=>?_
    simp only [Xt,Xs,id]
   rw [if_neg c,if_neg c]
   by_cases c:zm (zv ts) [91]=true
   ·rw [if_pos c,if_pos c]
    have o:=zD hE c;refine zF (I [] _ o) fun y us h=>?_
    have A:=Q _ _ _ _ h o;refine zF (Z0 A) fun z vs h2=>?_
    simp only [Xt,Xs]
   rw [if_neg c,if_neg c];refine zF (Z0 hE) fun z vs h2=>?_
   have A:=zY h2 hE;refine zF (H _ _ A) fun y us h=>?_
   have J:=G _ _ _ _ h A;exact zF (Z0 J) fun z vs h4=>rfl
  ·rw [ZY,ZY]
   refine zF (H _ ts hE) fun y us h=>?_
   have o:=G _ _ _ _ h hE;rw [Yg o,Ys,yB,←zgS]
   by_cases c:zm (zv us) [44]=true
   ·rw [if_pos c,if_pos c];exact I _ _ (zD o c)
   ·rw [if_neg c,if_neg c];rfl
  ·rw [zA,zA]
   refine zF (Z0 hE) fun z vs h2=>?_
   have o:=zY h2 hE;rw [Yg o,Ys,yB]
   by_cases c:zm (zv vs) [41]=true
   ·rw [if_pos c,if_pos c];rfl
   ·rw [if_neg c,if_neg c]
    refine zF (I [] _ o) fun y us h=>?_
    exact zF (Z0 (Q _ _ _ _ h o)) fun z vs h4=>rfl
theorem zfy (fl:Nat→Nat) (e:Ex):yX (Xs fl e)=yX e:=by unfold yX;rw [zfv]
theorem zgT (fl fa:Nat→Nat) (f:Nat) :
  (∀ts,zi ts→Ze f (ts.map (Xb fl fa))=Xt (uU fl) fl fa (Ze f ts))∧(∀ts,zi ts→zH f (ts.map (Xb fl fa))=Xt (yA fl) fl fa (zH f ts))∧(∀pre ts,zi ts→Zd f (yA fl pre) (ts.map (Xb fl fa))=Xt (yA fl) fl fa (Zd f pre ts)):=by
 induction f with
 | zero=>refine ⟨?_,?_,?_⟩ <;> intros <;> simp only [Ze,zH,Zd,Xt]
 | succ f ih =>
  obtain ⟨L,I,J⟩:=ih;obtain ⟨N,Q,R⟩:=vI f;have H:=(zfx fl fa f).1;have G:=(Zi f).1;have O:∀(t:Tk),(Xb fl fa t).line=fl t.line:=fun t=>rfl
  refine ⟨fun ts hE=>?_,fun ts hE=>?_,fun pre ts hE=>?_⟩
  ·rw [Ze,Ze,Yg hE,Ys,O,yB,yB,yB,yB]
   by_cases c:zm (zv ts) [108,101,116]=true
   ·rw [if_pos c,if_pos c]
    have o:=zD hE c;refine zF (vz o) fun y us h=>?_
    have A:=ZM h o;refine zF (Z0 A) fun z vs h2=>?_
    have D:=zY h2 A;refine zF (H _ _ D) fun e xs h3=>?_
    refine zF (Z0 (G _ _ _ _ h3 D)) fun z ys h4=>?_
    simp only [Xt,uU,YZ,yA,id]
   rw [if_neg c,if_neg c]
   by_cases c:zm (zv ts) [105,102]=true
   ·rw [if_pos c,if_pos c]
    have o:=zD hE c;refine zF (H _ _ o) fun e us h=>?_
    have A:=G _ _ _ _ h o;refine zF (I _ A) fun b vs h2=>?_
    have D:=Q _ _ _ h2 A;rw [Yg D,Ys,yB]
    by_cases d:zm (zv vs) [101,108,115,101]=true
    ·rw [if_pos d,if_pos d]
     refine zF (I _ (zD D d)) fun c xs h3=>?_
     simp only [Xt,uU,YZ]
    ·rw [if_neg d,if_neg d]
     simp only [Xt,uU,YZ,yA]
   rw [if_neg c,if_neg c]
   by_cases c:zm (zv ts) [119,104,105,108,101]=true
   ·rw [if_pos c,if_pos c]
    have o:=zD hE c;refine zF (H _ _ o) fun e us h=>?_
    refine zF (I _ (G _ _ _ _ h o)) fun b vs h2=>?_
    simp only [Xt,uU,YZ,yA]
   rw [if_neg c,if_neg c]
   by_cases c:zm (zv ts) [114,101,116,117,114,110]=true
   ·rw [if_pos c,if_pos c]
    have o:=zD hE c;rw [Yg o,Ys,yB]
    by_cases d:zm (zv ts.tail) [59]=true
    ·rw [if_pos d,if_pos d]
     simp only [Xt,uU,YZ,yA]
    ·rw [if_neg d,if_neg d]
     refine zF (H _ _ o) fun e us h=>?_
     refine zF (Z0 (G _ _ _ _ h o)) fun z ys h4=>?_
     simp only [Xt,uU,YZ,yA]
   rw [if_neg c,if_neg c];refine zF (H _ _ hE) fun e us h=>?_
   have A:=G _ _ _ _ h hE;rw [Yg A,Ys,yB,zfy]
   by_cases c:zm (zv us) [61]=true
   ·rw [if_pos c,if_pos c]
    by_cases d:yX e=true
    ·rw [if_pos d,if_pos d]
     have D:=zD A c;refine zF (H _ _ D) fun e2 vs h3=>?_
     refine zF (Z0 (G _ _ _ _ h3 D)) fun z ys h4=>?_
     simp only [Xt,uU,YZ,yA]
    ·rw [if_neg d,if_neg d];rfl
   ·rw [if_neg c,if_neg c]
    refine zF (Z0 A) fun z ys h4=>?_
    simp only [Xt,uU,YZ,yA]
  ·rw [zH,zH]
   exact zF (Z0 hE) fun z us h=>J [] us (zY h hE)
  ·rw [Zd,Zd,Yg hE,Ys,yB]
   by_cases c:zm (zv ts) [125]=true
   ·rw [if_pos c,if_pos c];rfl
   ·rw [if_neg c,if_neg c]
    refine zF (L _ hE) fun x us h=>?_
    rw [←zfw];exact J _ _ (N _ _ _ h hE)
def mvX {α:Type} (fl fa:Nat→Nat):PR α→PR α
 | .error a=>.error (fa a)
 | .ok (x,us)=>.ok (x,us.map (Xb fl fa))
theorem zd0 {fl fa:Nat→Nat} {n:Nat}:∀{ts:List Tk},zi ts→ZS n (ts.map (Xb fl fa))=(match ZS n ts with | .error a=>.error (fa a) | .ok us=>.ok (us.map (Xb fl fa))):=by
 induction n with
 | zero=>intro ts _;rfl
 | succ n ih =>
  intro ts h;rw [ZS,ZS,Yg h,Ys,yB]
  by_cases c:zm (zv ts) [93]=true
  ·rw [if_pos c,if_pos c];exact ih (zD h c)
  ·rw [if_neg c,if_neg c];rfl
theorem U0 {fl fa:Nat→Nat}:∀(ts:List Tk) (k:Nat),zi ts→ZB k (ts.map (Xb fl fa))=mvX fl fa (ZB k ts)
 | [],k,hE=>absurd hE (by simp [zi])
 | t::ts,k,hE=>by
  rw [List.map_cons,ZB,ZB,yB]
  by_cases c:zm t [91]=true
  ·rw [if_pos c,if_pos c];exact U0 ts (k+1) (hE.tail (zj c))
  rw [if_neg c,if_neg c,show (Xb fl fa t).k=t.k from rfl]
  by_cases c:t.k=1
  ·rw [if_pos c,if_pos c,zd0 (hE.tail (by omega))]
   cases ZS k ts <;> rfl
  ·rw [if_neg c,if_neg c];rfl
theorem zd1 {fl fa:Nat→Nat} {ts:List Tk} (hE:zi ts):Z8 (ts.map (Xb fl fa))=mvX fl fa (Z8 ts):=by
 unfold Z8
 rw [Yg hE,show (Xb fl fa (zv ts)).k=(zv ts).k from rfl]
 by_cases c:(zv ts).k=1
 ·have h:=Z5 hE (by omega)
  rw [if_pos c,if_pos c,Ys,Yg h,yB,Ys]
  by_cases d:zm (zv ts.tail) [58]=true
  ·rw [if_pos d,if_pos d,U0 _ _ (zD h d)]
   cases ZB 0 ts.tail.tail <;> rfl
  ·rw [if_neg d,if_neg d];rfl
 ·rw [if_neg c,if_neg c];rfl
theorem um {fl fa:Nat→Nat}:∀(f:Nat) (pre:List Pm) (ts:List Tk),zi ts→zN f pre (ts.map (Xb fl fa))=Xt id fl fa (zN f pre ts)
 | 0,_,_,_=>rfl
 | f+1,pre,ts,hE=>by
  rw [zN,zN,zd1 hE];cases hp:Z8 ts with
  | error a=>rfl
  | ok q =>
   obtain ⟨p,o⟩:=q;have h:=(YV hp hE).1;simp only [mvX];rw [Yg h,yB,Ys]
   by_cases c:zm (zv o) [44]=true
   ·rw [if_pos c,if_pos c];exact um f _ _ (zD h c)
   ·rw [if_neg c,if_neg c];rfl
theorem zgU {fl fa:Nat→Nat} {f:Nat} {ts:List Tk} (hE:zi ts):yo f (ts.map (Xb fl fa))=Xt id fl fa (yo f ts):=by
 unfold yo
 refine zF (Z0 hE) fun z us h=>?_
 have o:=zY h hE;rw [Yg o,yB,Ys]
 by_cases c:zm (zv us) [41]=true
 ·rw [if_pos c,if_pos c];rfl
 ·rw [if_neg c,if_neg c]
  refine zF (um _ _ _ o) fun y vs h2=>?_
  exact zF (Z0 (Ya h2 o)) fun z ys h4=>rfl
theorem zif {fl fa:Nat→Nat} {ts:List Tk} (hE:zi ts):xK (ts.map (Xb fl fa))=Xt id fl fa (xK ts):=by
 unfold xK
 rw [Yg hE,yB,Ys]
 by_cases c:zm (zv ts) [58]=true
 ·rw [if_pos c,if_pos c,U0 _ _ (zD hE c)]
  cases ZB 0 ts.tail <;> rfl
 ·rw [if_neg c,if_neg c];rfl
theorem zgV {fl fa:Nat→Nat} {f line:Nat} {ts:List Tk} (hE:zi ts):ZX f (fl line) (ts.map (Xb fl fa))=Xt (zfu fl) fl fa (ZX f line ts):=by
 unfold ZX
 refine zF (vz hE) fun s us h=>?_
 have o:=ZM h hE;refine zF (zgU o) fun l vs h2=>?_
 have y:=xy h2 o;refine zF (zif y) fun t xs h3=>?_
 refine zF ((zgT fl fa f).2.1 _ (Qe h3 y)) fun b ys h4=>?_
 rfl
theorem zd2 {fl fa:Nat→Nat} {f line:Nat} {ts:List Tk} (hE:zi ts):Zl f (fl line) (ts.map (Xb fl fa))=Xt (zgR fl) fl fa (Zl f line ts):=by
 unfold Zl
 refine zF (vz hE) fun s us h=>?_
 have o:=ZM h hE;refine zF (Z0 o) fun z vs h2=>?_
 have y:=zY h2 o;refine zF (um _ _ _ y) fun l xs h3=>?_
 exact zF (Z0 (Ya h3 y)) fun z ys h4=>rfl
theorem Q4 (fl fa:Nat→Nat):∀(f:Nat) (rs:List Rc) (fs:List Fc) (ts:List Tk),zi ts→Zm f (rs.map (zgR fl)) (fs.map (zfu fl)) (ts.map (Xb fl fa))=Xt (qE fl) fl fa (Zm f rs fs ts)
 | 0,_,_,_,_=>rfl
 | f+1,rs,fs,ts,hE=>by
  rw [Zm,Zm,Yg hE,Ys,yB,yB,show (Xb fl fa (zv ts)).k=(zv ts).k from rfl,show (Xb fl fa (zv ts)).line=fl (zv ts).line from rfl]
  by_cases c:(zv ts).k=0
  ·rw [if_pos c,if_pos c];rfl
  rw [if_neg c,if_neg c]
  by_cases c:zm (zv ts) [114,101,99,111,114,100]=true
  ·rw [if_pos c,if_pos c]
   have o:=zD hE c;refine zF (zd2 o) fun x us h=>?_
   have:=Q4 fl fa f (rs++[x]) fs us (Yy h o)
   rw [List.map_append] at this;exact this
  rw [if_neg c,if_neg c]
  by_cases c:zm (zv ts) [102,110]=true
  ·rw [if_pos c,if_pos c]
   have o:=zD hE c;refine zF (zgV o) fun x us h=>?_
   have:=Q4 fl fa f rs (fs++[x]) us (xz h o)
   rw [List.map_append] at this;exact this
  ·rw [if_neg c,if_neg c];rfl
def erT (t:Tk):Tk:=⟨t.k,t.s,t.n,0,0⟩
def erR (r:TR):Tk:=⟨r.k,r.s,r.n,0,0⟩
def xE:Nat→List UInt8→Option (List Tk)
 | 0,_=>none
 | f+1,l =>
  if (Zc (l.drop (Z4 l))).e≠0 then none
  else if (Zc (l.drop (Z4 l))).k=0 then some [erR (Zc (l.drop (Z4 l)))]
  else (xE f ((l.drop (Z4 l)).drop (Zc (l.drop (Z4 l))).sz)).map fun ts=>erR (Zc (l.drop (Z4 l)))::ts
theorem zco (l:List UInt8) (a:Nat):zQ l a=Zc ((l.drop a).drop (Z4 (l.drop a))):=by
 unfold zQ
 rw [List.drop_drop]
theorem Qk (l:List UInt8):∀(f line a:Nat) (ts:List Tk),xE f (l.drop a)=some ts→(scanS l f line a).2.2=0∧(scanS l f line a).1.map erT=ts
 | 0,_,_,_,h=>by simp [xE] at h
 | f+1,line,a,ts,h=>by
  rw [xE,←zco] at h;rw [scanS]
  by_cases he:(zQ l a).e≠0
  ·rw [if_pos he] at h;cases h
  rw [if_neg he] at h ⊢
  by_cases hk:(zQ l a).k=0
  ·rw [if_pos hk] at h ⊢
   obtain rfl:=Option.some.inj h;exact ⟨rfl,rfl⟩
  rw [if_neg hk] at h ⊢
  have hd:((l.drop a).drop (Z4 (l.drop a))).drop (zQ l a).sz=l.drop (zP l a+(zQ l a).sz):=by
   unfold zP
   rw [List.drop_drop,List.drop_drop,Nat.add_assoc]
  rw [hd] at h;cases hr:xE f (l.drop (zP l a+(zQ l a).sz)) with
  | none=>rw [hr] at h;cases h
  | some us =>
   rw [hr] at h;simp only [Option.map_some,Option.some.injEq] at h;subst h;obtain ⟨y,o⟩:=Qk l f (yj l line a) (zP l a+(zQ l a).sz) us hr;rw [if_neg (by omega)]
   exact ⟨rfl,by rw [List.map_cons,o];rfl⟩
theorem Ql:∀(f g:Nat) (l ts:_),xE f l=some ts→l.length<g→xE g l=some ts
 | 0,_,_,_,h,_=>by simp [xE] at h
 | f+1,0,_,_,_,h=>by omega
 | f+1,g+1,l,ts,h,hg=>by
  rw [xE] at h ⊢
  by_cases he:(Zc (l.drop (Z4 l))).e≠0
  ·rw [if_pos he] at h;cases h
  rw [if_neg he] at h ⊢
  by_cases hk:(Zc (l.drop (Z4 l))).k=0
  ·rw [if_pos hk] at h ⊢;exact h
  rw [if_neg hk] at h ⊢;have z:=(vG (l.drop (Z4 l)) (by omega)).2.1 hk
  cases hr:xE f ((l.drop (Z4 l)).drop (Zc (l.drop (Z4 l))).sz) with
  | none=>rw [hr] at h;cases h
  | some us =>
   rw [hr] at h
   have y:((l.drop (Z4 l)).drop (Zc (l.drop (Z4 l))).sz).length<g:=by
    have o:=(vG (l.drop (Z4 l)) (by omega)).1
    simp only [List.length_drop] at o ⊢;omega
   rw [Ql f g _ us hr y];exact h
theorem zd3 {l:List UInt8} {f:Nat} {ts:List Tk} (hl:l.length≤4096) (h:xE f l=some ts):(zW l).2.2=0∧(zW l).1.map erT=ts:=by
 unfold zW
 rw [if_neg (by omega)]
 exact Qk l (l.length+1) 1 0 ts (by rw [List.drop_zero];exact Ql f _ l ts h (by omega))
theorem zgW {c:UInt8} (hc:zV c.toNat=true) (m:List UInt8):Z4 (c::m)=1+Z4 m:=by
 rw [vF,vF m]
 have h:Z6 zV (c::m)=1+Z6 zV m:=by
  unfold Z6
  rw [List.takeWhile_cons_of_pos (p:=fun c:UInt8=>zV c.toNat) hc,List.length_cons,Nat.add_comm]
 rw [h,Nat.add_comm 1 (Z6 zV m),List.drop_succ_cons];omega
theorem zcp {c:UInt8} (hc:zV c.toNat=true) (f:Nat) (m:List UInt8):xE f (c::m)=xE f m:=by
 cases f with
 | zero=>rfl
 | succ f=>rw [xE,xE,zgW hc,Nat.add_comm 1 (Z4 m),List.drop_succ_cons]
def ziX (k:Int) (m:List UInt8):Prop:=∀c,m.head?=some c→(k=4→c≠61∧c≠38∧c≠124∧c≠47)∧(k≠4→k≠3→yu c.toNat=false)
theorem Qm {x m:List UInt8} (hx:x.all (fun c=>yu c.toNat)=true) (hm:∀c,m.head?=some c→yu c.toNat=false):Z7 (x++m)=x:=by
 unfold Z7
 rw [xX m _ (by rw [Yh _ (fun c hc=>List.all_eq_true.1 hx c hc)])]
 cases m with
 | nil=>simp
 | cons c m=>rw [List.takeWhile_cons_of_neg (by rw [hm c rfl];decide),List.append_nil]
theorem vA:∀x∈signsL,(∃p,x=[p])∨∃p q,x=[p,q]∧(q=61∨q=38∨q=124):=by
 intro x h;simp only [signsL,List.mem_cons,List.not_mem_nil,or_false] at h;rcases h with rfl | rfl | rfl | rfl | rfl | rfl | rfl | rfl | rfl | rfl | rfl | rfl | rfl | rfl | rfl | rfl | rfl | rfl | rfl | rfl | rfl | rfl | rfl | rfl | rfl
 all_goals first
  | exact .inl ⟨_,rfl⟩
  | exact .inr ⟨_,_,rfl,by decide⟩
theorem zfz {s m:List UInt8} (hs:s∈signsL) (hm:∀c,m.head?=some c→c≠61∧c≠38∧c≠124):bestS (s++m) 25=s:=by
 have G:∀x∈signsL,Lib.hasPrefix (s++m) x=Lib.hasPrefix s x:=by
  intro x A
  unfold Lib.hasPrefix
  cases m with
  | nil=>rw [List.append_nil]
  | cons c m =>
   obtain ⟨c1,c2,I⟩:=hm c rfl;rcases vA s hs with ⟨a,rfl⟩ | ⟨a,b,rfl,-⟩ <;> rcases vA x A with ⟨p,rfl⟩ | ⟨p,q,rfl,H⟩
   ·simp [List.isPrefixOf]
   ·have D:(q==c)=false:=by
     rw [beq_eq_false_iff_ne];rcases H with rfl | rfl | rfl
     ·exact fun e=>c1 e.symm
     ·exact fun e=>c2 e.symm
     ·exact fun e=>I e.symm
    simp [List.isPrefixOf,D]
   ·simp [List.isPrefixOf]
   ·simp [List.isPrefixOf]
 have z:∀(o:List (List UInt8)) (b:List UInt8),(∀x∈o,x∈signsL)→o.foldl (longer (s++m)) b=o.foldl (longer s) b:=by
  intro o
  induction o with
  | nil=>intro b _;rfl
  | cons x o ih =>
   intro b h
   have J:longer (s++m) b x=longer s b x:=by
    unfold longer
    rw [G x (h x (List.mem_cons_self ..))]
   rw [List.foldl_cons,List.foldl_cons,J,ih _ (fun y hy=>h y (List.mem_cons_of_mem _ hy))]
 have:=z (signsL.take 25) [] (fun x A=>List.mem_of_mem_take A)
 unfold bestS
 rw [this];exact qV s hs
theorem zgX {t:TT} (h:zdF t) (m:List UInt8) (hm:ziX t.k m) :
  Zc (xI t.k t.n t.s++m)=⟨t.k.toNat,t.s,t.n.toNat,(xI t.k t.n t.s).length,0⟩∧Z4 (xI t.k t.n t.s++m)=0∧0≤t.k∧0≤t.n:=by
 obtain ⟨k,n,s⟩:=t;obtain ⟨O,V,W⟩:=h;simp only at O V W hm ⊢
 by_cases h2:k=2
 ·subst h2
  obtain ⟨rfl,T⟩:=(Uu W).1 O
  have J:xI 2 n []=Lib.decDigits n.toNat:=by
   show Lib.itoa n=_
   unfold Lib.itoa
   rw [if_neg (by omega)]
  rw [J];refine ⟨zaH n.toNat (by omega) m (fun x hx=>?_),?_,by decide,T⟩
  ·have:=(hm x (by simpa using hx)).2 (by decide) (by decide)
   unfold yu at this
   rw [Bool.or_eq_false_iff] at this;exact this.2
  ·cases hd:Lib.decDigits n.toNat with
   | nil=>exact absurd hd (zbP _)
   | cons c r =>
    have o:=V8 (u6 n.toNat c (by rw [hd];exact List.mem_cons_self ..))
    rw [List.cons_append];exact QI o.2.2 o.2.1
 ·by_cases h3:k=3
  ·subst h3
   obtain ⟨hp,rfl⟩:=V7.1 O;have J:xI 3 0 s=yg s:=rfl;rw [J];refine ⟨Vc s m hp,?_,by decide,by decide⟩
   unfold yg
   rw [List.cons_append];exact QI (by decide) (by decide)
  ·have J:xI k n s=s:=by unfold xI;rw [if_neg h2,if_neg h3]
   rw [J];rcases (ZR h2 h3).1 O with ⟨Z,-⟩ | ⟨rfl,z,rfl⟩ | ⟨rfl,z,rfl⟩ | ⟨rfl,z,rfl⟩
   ·exact absurd Z V
   ·have y:∀c,m.head?=some c→yu c.toNat=false:=fun c o=>(hm c o).2 (by decide) (by decide)
    cases s with
    | nil=>simp [Y3] at z
    | cons c r =>
     unfold Y3 at z
     simp only at z;rw [Bool.and_eq_true,Bool.and_eq_true,Bool.and_eq_true,decide_eq_true_eq] at z;obtain ⟨⟨⟨D,N⟩,Q⟩,Y⟩:=z;have g5:(c::r).all (fun c=>yu c.toNat)=true:=by rw [List.all_cons,N,Bool.and_true];simp [yu,D]
     have o:=Uv D;have A:=Qm g5 y;refine ⟨?_,by rw [List.cons_append];exact QI o.2 o.1,by decide,by decide⟩
     rw [List.cons_append] at A ⊢;rw [yV D]
     unfold Yd
     rw [A,if_neg (by intro e;rw [e] at Q;cases Q),if_neg (by omega)]
     rfl
   ·have y:=fun c o=>(hm c o).1 rfl
    obtain ⟨c,r,H,D,N,Q,Y⟩:=qU s z;have I:bestS (s++m) 25=s:=zfz z fun c o=>⟨(y c o).1,(y c o).2.1,(y c o).2.2.1⟩
    have G:XV (s++m)=false:=by
     cases m with
     | nil =>
      have L:∀x∈signsL,XV x=false:=by decide
      rw [List.append_nil];exact L s z
     | cons d m =>
      obtain ⟨-,-,-,d4⟩:=y d rfl;have hd:(47==d)=false:=by rw [beq_eq_false_iff_ne];exact fun e=>d4 e.symm
      unfold XV Lib.hasPrefix
      rcases vA s z with ⟨a,rfl⟩ | ⟨a,b,rfl,U⟩
      ·simp [List.isPrefixOf,hd]
      ·have R:(47==b)=false:=by rcases U with rfl | rfl | rfl <;> decide
       simp [List.isPrefixOf,R]
    rw [H] at I G ⊢;refine ⟨?_,by rw [List.cons_append] at G ⊢;exact zaE Y G,by decide,by decide⟩
    rw [List.cons_append] at I ⊢;rw [xj D N Q]
    unfold Yu
    rw [I,if_neg (by simp)]
    rfl
   ·have y:∀c,m.head?=some c→yu c.toNat=false:=fun c o=>(hm c o).2 (by decide) (by decide)
    obtain ⟨c,r,H,D,N⟩:=uC s (by unfold yp at z;exact List.contains_iff_mem.1 z)
    subst H;have o:=Uv D;have A:=Qm N y;refine ⟨?_,by rw [List.cons_append];exact QI o.2 o.1,by decide,by decide⟩
    rw [List.cons_append] at A ⊢;rw [yV D]
    unfold Yd
    rw [A,if_pos z]
    rfl
def ttT (t:TT):Tk:=⟨t.k.toNat,t.s,t.n.toNat,0,0⟩
theorem zfA {t:TT} (h:zdF t) {m:List UInt8} (hm:ziX t.k m) {f:Nat} {ts:List Tk} (hf:xE f m=some ts):xE (f+1) (xI t.k t.n t.s++m)=some (ttT t::ts):=by
 obtain ⟨z,o,A,D⟩:=zgX h m hm;have y:¬ t.k.toNat=0:=by have:=h.2.1;omega
 rw [xE,o,List.drop_zero,z];simp only;rw [if_neg (by simp),if_neg y,List.drop_append_of_le_length (Nat.le_refl _),List.drop_length,List.nil_append,hf]
 rfl
end Go.Proofs.YtpejpbbdgblbeaaGreatDoor
