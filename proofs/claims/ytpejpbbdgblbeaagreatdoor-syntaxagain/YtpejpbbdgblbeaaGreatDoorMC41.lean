import Derived.Test.YtpejpbbdgblbeaaGreatDoorMC40
import Derived.Test.YtpejpbbdgblbeaaGreatDoorMC8
import Derived.Test.YtpejpbbdgblbeaaGreatDoorMC22
import Derived.Test.YtpejpbbdgblbeaaGreatDoorMC34
namespace Go.Proofs.YtpejpbbdgblbeaaGreatDoor
open Go.RowKit Go.Shelf
def Sg (c:UInt8):Prop:=c≠61∧c≠38∧c≠124∧c≠47
def Nm (c:UInt8):Prop:=yu c.toNat=false
def Sp (c:UInt8):Prop:=Sg c∧Nm c
def U2 (_:UInt8):Prop:=True
instance (c:UInt8):Decidable (Sg c):=by unfold Sg;infer_instance
instance (c:UInt8):Decidable (Nm c):=by unfold Nm;infer_instance
instance (c:UInt8):Decidable (Sp c):=by unfold Sp;infer_instance
def Lx (P:UInt8→Prop) (t:List UInt8) (K:List Tk):Prop:=∀(m:List UInt8) (f:Nat) (us:List Tk),(∀c,m.head?=some c→P c)→xE f m=some us→∃f',xE f' (t++m)=some (K++us)
def Hd (P:UInt8→Prop) (t:List UInt8):Prop:=∃c r,t=c::r∧P c
theorem Hd.app {P:UInt8→Prop} {t:List UInt8} (h:Hd P t) (u:List UInt8):Hd P (t++u):=by
 obtain ⟨c,r,rfl,h⟩:=h;exact ⟨c,r++u,rfl,h⟩
theorem Hd.at {P:UInt8→Prop} {t:List UInt8} (h:Hd P t) (m:List UInt8) (c:UInt8) (hc:(t++m).head?=some c):P c:=by
 obtain ⟨d,r,rfl,h⟩:=h;obtain rfl:d=c:=by simpa using hc
 exact h
theorem Lx.mono {P Q:UInt8→Prop} {t:List UInt8} {K:List Tk} (h:Lx P t K) (hq:∀c,Q c→P c):Lx Q t K:=fun m f us hm hf=>h m f us (fun c hc=>hq c (hm c hc)) hf
theorem Lx.app {P Q:UInt8→Prop} {a b:List UInt8} {A B:List Tk} (h1:Lx P a A) (h2:Lx Q b B) (hd:Hd P b):Lx Q (a++b) (A++B):=fun m f us hm hf=>by
 obtain ⟨y,o⟩:=h2 m f us hm hf;obtain ⟨z,h⟩:=h1 (b++m) y (B++us) (hd.at m) o;exact ⟨z,by rw [List.append_assoc,List.append_assoc];exact h⟩
theorem Lx.nil (P:UInt8→Prop):Lx P [] []:=fun _ f _ _ hf=>⟨f,hf⟩
theorem Lx.bl {Q:UInt8→Prop} {c:UInt8} (hc:zV c.toNat=true) {b:List UInt8} {B:List Tk} (h:Lx Q b B):Lx Q (c::b) B:=fun m f us hm hf=>by
 obtain ⟨y,o⟩:=h m f us hm hf;exact ⟨y,by rw [List.cons_append,zcp hc];exact o⟩
theorem Lx.tok {t:TT} (h:zdF t) {P:UInt8→Prop} (hp:∀c,P c→(t.k=4→c≠61∧c≠38∧c≠124∧c≠47)∧(t.k≠4→t.k≠3→yu c.toNat=false)):Lx P (xI t.k t.n t.s) [ttT t]:=fun _ f _ hm hf =>
 ⟨f+1,zfA h (fun c hc=>hp c (hm c hc)) hf⟩
theorem zgZ {s:List UInt8} (h:s∈signsL):zdF ⟨4,0,s⟩:=⟨(ZR (k:=4) (n:=0) (by decide) (by decide)).2 (.inr (.inr (.inl ⟨rfl,h,rfl⟩))),(show (4:Int)≠0 by decide),(show (0:Int)≤9223372036854775807 by decide)⟩
theorem zg0 {s:List UInt8} (h:yp s=true):zdF ⟨5,0,s⟩:=⟨(ZR (k:=5) (n:=0) (by decide) (by decide)).2 (.inr (.inr (.inr ⟨rfl,h,rfl⟩))),(show (5:Int)≠0 by decide),(show (0:Int)≤9223372036854775807 by decide)⟩
theorem Lx.sign {s:List UInt8} (h:s∈signsL):Lx Sg s [gT s]:=Lx.tok (zgZ h) fun _ hc=>⟨fun _=>hc,fun h=>absurd rfl h⟩
theorem Lx.word {s:List UInt8} (h:yp s=true):Lx Nm s [XJ s]:=Lx.tok (zg0 h) fun _ hc=>⟨fun h=>absurd h (show (5:Int)≠4 by decide),fun _ _=>hc⟩
theorem Lx.one (s:UInt8) (h:[s]∈signsL) {Q:UInt8→Prop} {b:List UInt8} {B:List Tk} (hb:Lx Q b B) (hd:Hd Sg b):Lx Q (s::b) (gT [s]::B):=(Lx.sign h).app hb hd
theorem Lx.name {s t:List UInt8} (h:tokO 1 0 s=some t):Lx Nm t [nmT s]∧Hd Sg t:=by
 obtain ⟨z,y⟩:=Xp h (by decide)
 have y:t=s:=y;subst y;refine ⟨Lx.tok z fun _ hc=>⟨fun h=>absurd h (show (1:Int)≠4 by decide),fun _ _=>hc⟩,?_⟩
 have o:Y3 t=true:=by
  rcases (ZR (k:=1) (n:=0) (by decide) (by decide)).1 z.1 with ⟨h,-⟩ | ⟨-,h,-⟩ | ⟨h,-⟩ | ⟨h,-⟩
  ·exact absurd h (by decide)
  ·exact h
  ·exact absurd h (by decide)
  ·exact absurd h (by decide)
 show Hd Sg t
 cases t with
 | nil=>simp [Y3] at o
 | cons c r =>
  unfold Y3 at o
  simp only at o;rw [Bool.and_eq_true,Bool.and_eq_true,Bool.and_eq_true,decide_eq_true_eq] at o;obtain ⟨⟨⟨A,H⟩,D⟩,G⟩:=o;refine ⟨c,r,rfl,?_,?_,?_,?_⟩ <;> (rintro rfl;revert A;decide)
structure Q6 (t:List UInt8) (K:List Tk):Prop where
 lx:Lx Sp t K
 hd:Hd Sg t
theorem zc8 {c:UInt8} (h:Sp c):Sg c:=h.1
theorem zbf {c:UInt8} (h:Sp c):Nm c:=h.2
theorem Q6.paren {t:List UInt8} {K:List Tk} (h:Q6 t K):Q6 (40::(t++[41])) (gT [40]::(K++[gT [41]])) :=
 ⟨Lx.one 40 (by decide) (h.lx.app ((Lx.sign (s:=[41]) (by decide)).mono fun _=>zc8) ⟨41,[],rfl,by decide⟩) (h.hd.app _),40,_,rfl,by decide⟩
theorem Q6.kid {t:List UInt8} {x:Ez} {least:Nat} {o:Option (List UInt8)} (h:kidO x least o=some t) (hx:∀v,o=some v→Q6 v (Yc x)):Q6 t (Xn (decide (least≤X7 x)) (Yc x)):=by
 obtain ⟨v,y,rfl⟩:=Xo h
 have:=hx v y
 unfold Xn
 by_cases hc:least≤X7 x
 ·rw [if_pos hc,if_pos (decide_eq_true hc)];exact this
 ·rw [if_neg hc,if_neg (by simpa using hc)];exact this.paren
theorem qF {α:Type} {K:α→List Tk} {kids:List α} {i:Nat} (hi:i<kids.length):(kids.take (i+1)).map K=(kids.take i).map K++[K kids[i]]:=by
 rw [List.take_succ_eq_append_getElem hi,List.map_append]
 rfl
theorem Q7 {α:Type} {g:α→Option (List UInt8)} {K:α→List Tk} {kids:List α} (ih:∀x∈kids,∀t,g x=some t→Q6 t (K x)):∀(i:Nat) (v:List UInt8),i≤kids.length→rowO (kids.map g) i=some v→Lx Sp v (yM ((kids.take i).map K))∧(0<i→Hd Sg v)∧(i=0→v=[])
 | 0,v,_,h=>by
  obtain rfl:=Option.some.inj h;exact ⟨Lx.nil _,fun h=>absurd h (by decide),fun _=>rfl⟩
 | i+1,v,hi,h=>by
  unfold rowO at h
  obtain ⟨a,b,I,A,rfl⟩:=zn h;obtain ⟨c,w,G,z,rfl⟩:=zn A;obtain rfl:=Option.some.inj G;obtain ⟨J,H,D⟩:=Q7 ih i a (by omega) I
  rw [List.getElem?_map,List.getElem?_eq_getElem (by omega)] at z
  have o:=ih _ (List.getElem_mem (show i<kids.length by omega)) w z
  rw [qF (by omega),zd6]
  by_cases h0:i=0
  ·obtain rfl:=D h0
   subst h0;refine ⟨?_,fun _=>?_,fun h=>absurd h (by omega)⟩
   ·exact o.lx
   ·exact o.hd
  ·have y:¬ (kids.take i).map K=[]:=by
    intro e
    have:((kids.take i).map K).length=0:=by rw [e];rfl
    rw [List.length_map,List.length_take] at this;omega
   rw [if_neg h0,if_neg y];exact ⟨J.app (Lx.one 44 (by decide) (Lx.bl (c:=32) (by decide) o.lx) ⟨32,w,rfl,by decide⟩) ⟨44,_,rfl,by decide⟩,fun _=>(H (by omega)).app _,fun h=>absurd h (by omega)⟩
theorem Q8 {α:Type} {g:α→Option (List UInt8)} {K:α→List Tk} {kids:List α} (ih:∀x∈kids,∀t,g x=some t→Q6 t (K x)) {v:List UInt8} (h:rowO (kids.map g) kids.length=some v) (c:UInt8) (hc:[c]∈signsL) (hs:Sp c):Lx Sp (v++[c]) (yM (kids.map K)++[gT [c]])∧Hd Sg (v++[c]):=by
 obtain ⟨o,y,z⟩:=Q7 ih kids.length v (Nat.le_refl _) h;rw [List.take_length] at o;refine ⟨o.app ((Lx.sign hc).mono fun _=>zc8) ⟨c,[],rfl,hs⟩,?_⟩
 by_cases h0:kids.length=0
 ·rw [z h0];exact ⟨c,[],rfl,hs.1⟩
 ·exact (y (by omega)).app _
theorem zcq {s:List UInt8} (h:0<levelOf s):s∈signsL∧Hd Sp (32::s):=by
 obtain ⟨i,A⟩:∃i,levelOf s=i+1:=⟨levelOf s-1,by omega⟩
 have z:=YK s;have y:=ze0 A;refine ⟨?_,32,s,rfl,by decide⟩
 have o:∀i,i<6→∀s∈rowT i,s∈signsL:=by decide
 exact o i (by omega) s y
theorem uL:∀(d:Nat) (x:Ez) (t:List UInt8),prE d x=some t→Q6 t (Yc x)
 | 0,x,t,h=>by rw [prE] at h;cases h
 | d+1,.mk k s n kids line,t,h=>by
  have G:=uL d;have H:∀x∈kids,∀t,prE d x=some t→Q6 t (Yc x):=fun x _ t h=>G x t h
  have Z:Yc (.mk k s n kids line)=uK k s n (kids.map X7) (kids.map Yc):=by rw [Yc,zc5]
  rw [Z];rcases zc7 h with ⟨rfl,rfl,rfl,L⟩ | ⟨rfl,rfl,rfl,V⟩ | ⟨rfl,rfl,rfl,L⟩ | ⟨rfl,rfl,rfl,L⟩ | ⟨rfl,rfl,u,v,A,o,rfl⟩ | ⟨rfl,rfl,u,v,A,o,rfl⟩ | ⟨rfl,rfl,rfl,U,v,o,rfl⟩ | ⟨rfl,rfl,R,a,u,rfl,A,rfl⟩ | ⟨rfl,rfl,Y,a,b,u,v,rfl,A,o,rfl⟩ | ⟨rfl,rfl,rfl,a,b,u,v,rfl,A,o,rfl⟩ | ⟨rfl,rfl,a,u,v,rfl,A,o,rfl⟩
  ·obtain ⟨y,rfl⟩:=Xp L (by decide)
   refine ⟨Lx.tok y fun c Q=>⟨fun h=>absurd h (show (2:Int)≠4 by decide),fun _ _=>Q.2⟩,?_⟩
   have W:0≤n:=by
    have:=y.1.2.2.2
    simp only at this;omega
   have T:xI 2 n []=Lib.decDigits n.toNat:=by
    show Lib.itoa n=_
    unfold Lib.itoa
    rw [if_neg (by omega)]
   show Hd Sg (xI 2 n [])
   rw [T];cases hd:Lib.decDigits n.toNat with
   | nil=>exact absurd hd (zbP _)
   | cons c r =>
    have Q:=u6 n.toNat c (by rw [hd];exact List.mem_cons_self ..)
    refine ⟨c,r,rfl,?_,?_,?_,?_⟩ <;> (rintro rfl;revert Q;decide)
  ·rcases V with ⟨rfl,rfl⟩ | ⟨rfl,rfl⟩
   ·exact ⟨(Lx.word (by decide)).mono fun _=>zbf,102,_,rfl,by decide⟩
   ·exact ⟨(Lx.word (by decide)).mono fun _=>zbf,116,_,rfl,by decide⟩
  ·obtain ⟨y,rfl⟩:=Xp L (by decide)
   exact ⟨Lx.tok y fun c _=>⟨fun h=>absurd h (show (3:Int)≠4 by decide),fun _ h=>absurd rfl h⟩,34,_,rfl,by decide⟩
  ·obtain ⟨y,I⟩:=Lx.name L
   exact ⟨y.mono fun _=>zbf,I⟩
  ·obtain ⟨y,I⟩:=Lx.name A
   obtain ⟨N,J⟩:=Q8 H o 41 (by decide) (by decide)
   exact ⟨y.app (Lx.one 40 (by decide) N J) ⟨40,_,rfl,by decide⟩,I.app _⟩
  ·obtain ⟨y,I⟩:=Lx.name A
   obtain ⟨N,J⟩:=Q8 H o 41 (by decide) (by decide)
   exact ⟨(Lx.word (s:=[110,101,119]) (by decide)).app (Lx.bl (c:=32) (by decide) (y.app (Lx.one 40 (by decide) N J) ⟨40,_,rfl,by decide⟩)) ⟨32,_,rfl,by decide⟩,110,_,rfl,by decide⟩
  ·obtain ⟨N,J⟩:=Q8 H o 93 (by decide) (by decide)
   exact ⟨Lx.one 91 (by decide) N J,91,_,rfl,by decide⟩
  ·have z:=Q6.kid A fun v o=>G a v o
   have D:s∈signsL:=by rcases R with rfl | rfl <;> decide
   refine ⟨(Lx.sign D).app z.lx z.hd,?_⟩;rcases R with rfl | rfl <;> exact ⟨_,_,rfl,by decide⟩
  ·have z:=Q6.kid A fun v o=>G a v o
   have O:=Q6.kid o fun v o=>G b v o
   obtain ⟨D,-⟩:=zcq Y;refine ⟨z.lx.app (Lx.bl (c:=32) (by decide) ((Lx.sign D).app (Lx.bl (c:=32) (by decide) O.lx) ⟨32,_,rfl,by decide⟩)) ⟨32,_,rfl,by decide⟩,z.hd.app _⟩
  ·have z:=Q6.kid A fun v o=>G a v o
   have O:=G b v o;refine ⟨z.lx.app (Lx.one 91 (by decide) (O.lx.app ((Lx.sign (s:=[93]) (by decide)).mono fun _=>zc8) ⟨93,[],rfl,by decide⟩) (O.hd.app _)) ⟨91,_,rfl,by decide⟩,z.hd.app _⟩
  ·have z:=Q6.kid A fun v o=>G a v o
   obtain ⟨y,I⟩:=Lx.name o;refine ⟨z.lx.app (Lx.one 46 (by decide) (y.mono fun _=>zbf) I) ⟨46,_,rfl,by decide⟩,z.hd.app _⟩
def uM (k:Int) (s:List UInt8) (E:List (List Tk)) (body els:List Tk):List Tk :=
 match E with
 | [a] =>
  if k=1 then XJ [108,101,116]::nmT s::gT [61]::(a++[gT [59]])
  else if k=6 then XJ [114,101,116,117,114,110]::(a++[gT [59]])
  else if k=7 then a++[gT [59]]
  else if k=4 then XJ [105,102]::(a++(gT [123]::(body++(gT [125]::XJ [101,108,115,101]::gT [123]::(els++[gT [125]])))))
  else XJ (if k=5 then [119,104,105,108,101] else [105,102])::(a++(gT [123]::(body++[gT [125]])))
 | [a,b]=>a++(gT [61]::(b++[gT [59]]))
 | _=>[XJ [114,101,116,117,114,110],gT [59]]
mutual
def ktS:Sz→List Tk
 | .mk k s es body els _=>uM k s (es.map Yc) (YE body) (YE els)
def YE:List Sz→List Tk
 | []=>[]
 | x::xs=>ktS x++YE xs
end
mutual
def zzS:Sz→St
 | .mk k s es body els _=>.mk k.toNat s (es.map VZ) (zzC body) (zzC els) 0
def zzC:List Sz→List St
 | []=>[]
 | x::xs=>zzS x::zzC xs
end
theorem zg1 (a b:List Sz):YE (a++b)=YE a++YE b:=by
 induction a with
 | nil=>rfl
 | cons x xs ih=>rw [List.cons_append,YE,YE,ih,List.append_assoc]
theorem zbh {f:Sz→Option (List UInt8)} {l:List Sz} {t:List UInt8} (h:blkO f l=some t):∃w,yL (l.map f) l.length=some w∧t=[123,10]++(w++[125]):=by
 unfold blkO at h
 obtain ⟨a,b,A,o,rfl⟩:=zn h;obtain ⟨c,e,y,z,rfl⟩:=zn o;obtain rfl:=Option.some.inj A;obtain rfl:=Option.some.inj z;exact ⟨c,y,rfl⟩
theorem zda {d:Nat} {k:Int} {s:List UInt8} {es:List Ez} {body els:List Sz} {line:Int} {t:List UInt8} (h:prS (d+1) (.mk k s es body els line)=some t) :
  (k=1∧body=[]∧els=[]∧∃a u v,es=[a]∧tokO 1 0 s=some u∧prE d a=some v∧t=[108,101,116,32]++(u++([32,61,32]++(v++[59,10])))) ∨
  (k=2∧s=[]∧body=[]∧els=[]∧∃a b u v,es=[a,b]∧x9 a=true∧prE d a=some u∧prE d b=some v∧t=u++([32,61,32]++(v++[59,10]))) ∨
  (k=6∧s=[]∧body=[]∧els=[]∧es=[]∧t=[114,101,116,117,114,110]++[59,10]) ∨
  (k=6∧s=[]∧body=[]∧els=[]∧∃a u,es=[a]∧prE d a=some u∧t=[114,101,116,117,114,110]++([32]++(u++[59,10]))) ∨
  (k=7∧s=[]∧body=[]∧els=[]∧∃a u,es=[a]∧prE d a=some u∧t=u++[59,10]) ∨
  (k=4∧s=[]∧∃a u b c,es=[a]∧prE d a=some u∧blkO (prS d) body=some b∧blkO (prS d) els=some c∧t=[105,102,32]++(u++([32]++(b++([32,101,108,115,101,32]++(c++[10])))))) ∨
  ((k=3∨k=5)∧s=[]∧els=[]∧∃a u b,es=[a]∧prE d a=some u∧blkO (prS d) body=some b∧t=(if k=5 then [119,104,105,108,101,32] else [105,102,32])++(u++([32]++(b++[10])))):=by
 rw [vo] at h
 unfold prT at h
 by_cases hst:Ye k s es body.length els.length=true
 case neg=>rw [if_neg hst] at h;cases h
 case pos =>
 rw [if_pos hst] at h
 unfold Ye hasX at hst
 rw [Bool.and_eq_true,Bool.and_eq_true,Bool.and_eq_true] at hst;obtain ⟨⟨⟨o,L⟩,hb⟩,hl⟩:=hst;simp only [Bool.or_eq_true,beq_iff_eq] at L hb hl
 by_cases h1:k=1
 ·subst h1
  rw [if_pos (.inl rfl)] at o;obtain ⟨a,rfl⟩:=List.length_eq_one_iff.1 (by simpa using o)
  rw [if_pos rfl] at h;obtain ⟨x1,J,y,z,rfl⟩:=zn h;obtain ⟨x2,T,G,D,rfl⟩:=zn z;obtain ⟨I,R,H,A,rfl⟩:=zn D;obtain ⟨N,U,O,Q,rfl⟩:=zn A;obtain rfl:=Option.some.inj y;obtain rfl:=Option.some.inj H;obtain rfl:=Option.some.inj Q;exact .inl ⟨rfl,List.eq_nil_of_length_eq_zero (by omega),List.eq_nil_of_length_eq_zero (by omega),a,x2,N,rfl,G,O,rfl⟩
 right
 rw [if_neg h1] at h;obtain rfl:s=[]:=by rcases L with L | L;exact absurd L h1;exact L
 by_cases h2:k=2
 ·subst h2
  rw [if_neg (by omega),if_pos rfl] at o
  obtain ⟨a,b,rfl,W⟩:∃a b,es=[a,b]∧x9 a=true:=by
   match es,o with
   | [a,b],o=>exact ⟨a,b,rfl,o⟩
  rw [if_pos rfl] at h;obtain ⟨x1,J,y,z,rfl⟩:=zn h;obtain ⟨x2,T,G,D,rfl⟩:=zn z;obtain ⟨I,R,H,A,rfl⟩:=zn D;obtain rfl:=Option.some.inj G;obtain rfl:=Option.some.inj A;exact .inl ⟨rfl,rfl,List.eq_nil_of_length_eq_zero (by omega),List.eq_nil_of_length_eq_zero (by omega),a,b,x1,I,rfl,W,y,H,rfl⟩
 right
 rw [if_neg h2] at h
 by_cases h6:k=6
 ·subst h6
  rw [if_neg (by omega),if_neg (by omega),if_pos rfl] at o
  rw [if_pos rfl] at h
  match es,o with
  | [],_ =>
   obtain ⟨x1,J,y,z,rfl⟩:=zn h;obtain rfl:=Option.some.inj y;obtain rfl:=Option.some.inj z;exact .inl ⟨rfl,rfl,List.eq_nil_of_length_eq_zero (by omega),List.eq_nil_of_length_eq_zero (by omega),rfl,rfl⟩
  | [a],_ =>
   obtain ⟨x1,J,y,z,rfl⟩:=zn h;obtain ⟨x2,T,G,D,rfl⟩:=zn z;obtain ⟨I,R,H,A,rfl⟩:=zn D;obtain rfl:=Option.some.inj y;obtain rfl:=Option.some.inj G;obtain rfl:=Option.some.inj A;exact .inr (.inl ⟨rfl,rfl,List.eq_nil_of_length_eq_zero (by omega),List.eq_nil_of_length_eq_zero (by omega),a,I,rfl,H,rfl⟩)
  | _::_::_,o=>simp at o
 right
 right
 rw [if_neg h6] at h
 by_cases h7:k=7
 ·subst h7
  rw [if_pos (by omega)] at o
  obtain ⟨a,rfl⟩:=List.length_eq_one_iff.1 (by simpa using o)
  rw [if_pos rfl] at h;obtain ⟨x1,J,y,z,rfl⟩:=zn h;obtain rfl:=Option.some.inj z;exact .inl ⟨rfl,rfl,List.eq_nil_of_length_eq_zero (by omega),List.eq_nil_of_length_eq_zero (by omega),a,x1,rfl,y,rfl⟩
 right
 rw [if_neg h7] at h
 by_cases h4:k=4
 ·subst h4
  rw [if_pos (by omega)] at o
  obtain ⟨a,rfl⟩:=List.length_eq_one_iff.1 (by simpa using o)
  rw [if_pos rfl] at h;obtain ⟨x1,J,y,z,rfl⟩:=zn h;obtain ⟨x2,T,G,D,rfl⟩:=zn z;obtain ⟨I,R,H,A,rfl⟩:=zn D;obtain ⟨N,U,O,Q,rfl⟩:=zn A;obtain ⟨x5,y5,e5,V,rfl⟩:=zn Q;obtain ⟨Y,y6,e6,Z,rfl⟩:=zn V;obtain rfl:=Option.some.inj y;obtain rfl:=Option.some.inj H;obtain rfl:=Option.some.inj e5;obtain rfl:=Option.some.inj Z;exact .inl ⟨rfl,rfl,a,x2,N,Y,rfl,G,O,e6,rfl⟩
 right
 rw [if_neg h4] at h
 have hk:k=3∨k=5:=by
  by_cases h3:k=3
  ·exact .inl h3
  ·by_cases h5:k=5
   ·exact .inr h5
   ·rw [if_neg (by omega),if_neg h2,if_neg h6] at o
    cases o
 rw [if_pos (by omega)] at o
 obtain ⟨a,rfl⟩:=List.length_eq_one_iff.1 (by simpa using o)
 obtain ⟨x1,J,y,z,rfl⟩:=zn h;obtain ⟨x2,T,G,D,rfl⟩:=zn z;obtain ⟨I,R,H,A,rfl⟩:=zn D;obtain ⟨N,U,O,Q,rfl⟩:=zn A;obtain rfl:=Option.some.inj y;obtain rfl:=Option.some.inj H;obtain rfl:=Option.some.inj Q;exact ⟨hk,rfl,List.eq_nil_of_length_eq_zero (by omega),a,x2,N,rfl,G,O,rfl⟩
theorem Lx.then {Q:UInt8→Prop} {a b:List UInt8} {A B:List Tk} (h1:Lx U2 a A) (h2:Lx Q b B):Lx Q (a++b) (A++B):=fun m f us hm hf=>by
 obtain ⟨y,o⟩:=h2 m f us hm hf;obtain ⟨z,h⟩:=h1 (b++m) y (B++us) (fun _ _=>trivial) o
 exact ⟨z,by rw [List.append_assoc,List.append_assoc];exact h⟩
theorem Lx.nl:Lx U2 [10] []:=Lx.bl (c:=10) (by decide) (Lx.nil _)
theorem Lx.semi:Lx U2 [59,10] [gT [59]]:=Lx.one 59 (by decide) Lx.nl ⟨10,[],rfl,by decide⟩
theorem Q6.then {t b:List UInt8} {K B:List Tk} {Q:UInt8→Prop} (h:Q6 t K) (h2:Lx Q b B) (hd:Hd Sp b):Lx Q (t++b) (K++B):=h.lx.app h2 hd
theorem zdb {l:List Sz} {d:Nat} (ih:∀x∈l,∀t,prS d x=some t→Lx U2 t (ktS x)):∀(i:Nat) (v:List UInt8),i≤l.length→yL (l.map (prS d)) i=some v→Lx U2 v (YE (l.take i))
 | 0,v,_,h=>by
  obtain rfl:=Option.some.inj h;exact Lx.nil _
 | i+1,v,hi,h=>by
  unfold yL at h
  obtain ⟨a,b,z,o,rfl⟩:=zn h;rw [List.getElem?_map,List.getElem?_eq_getElem (by omega)] at o
  have y:=ih _ (List.getElem_mem (show i<l.length by omega)) b o
  rw [List.take_succ_eq_append_getElem (by omega),zg1]
  refine (zdb ih i a (by omega) z).then ?_
  show Lx U2 b (ktS l[i]++[])
  rw [List.append_nil];exact y
theorem Uf {l:List Sz} {d:Nat} (ih:∀x∈l,∀t,prS d x=some t→Lx U2 t (ktS x)) {t:List UInt8} (h:blkO (prS d) l=some t):Lx Sg t (gT [123]::(YE l++[gT [125]]))∧Hd Sg t:=by
 obtain ⟨w,y,rfl⟩:=zbh h;have o:=zdb ih l.length w (Nat.le_refl _) y;rw [List.take_length] at o;exact ⟨Lx.one 123 (by decide) (Lx.bl (c:=10) (by decide) (o.then (Lx.sign (s:=[125]) (by decide)))) ⟨10,_,rfl,by decide⟩,123,_,rfl,by decide⟩
theorem zfD:∀(d:Nat) (x:Sz) (t:List UInt8),prS d x=some t→Lx U2 t (ktS x)
 | 0,x,t,h=>by rw [prS] at h;cases h
 | d+1,.mk k s es body els line,t,h=>by
  have G:∀x∈body,∀t,prS d x=some t→Lx U2 t (ktS x):=fun x _ t h=>zfD d x t h
  have L:∀x∈els,∀t,prS d x=some t→Lx U2 t (ktS x):=fun x _ t h=>zfD d x t h
  have V:ktS (.mk k s es body els line)=uM k s (es.map Yc) (YE body) (YE els):=by rw [ktS]
  rw [V];have A:Sp 32:=by decide
  have z:Sp 59:=by decide
  rcases zda h with ⟨rfl,-,-,a,u,v,rfl,y,N,rfl⟩ | ⟨rfl,-,-,-,a,b,u,v,rfl,-,y,N,rfl⟩ | ⟨rfl,-,-,-,rfl,rfl⟩ | ⟨rfl,-,-,-,a,u,rfl,y,rfl⟩ | ⟨rfl,-,-,-,a,u,rfl,y,rfl⟩ | ⟨rfl,-,a,u,b,c,rfl,y,J,T,rfl⟩ | ⟨Q,-,-,a,u,b,rfl,y,J,rfl⟩
  ·obtain ⟨o,I⟩:=Lx.name y
   have H:=uL d a v N;exact (Lx.word (s:=[108,101,116]) (by decide)).app (Lx.bl (c:=32) (by decide) (o.app (Lx.bl (c:=32) (by decide) (Lx.one 61 (by decide) (Lx.bl (c:=32) (by decide) (H.then Lx.semi ⟨59,_,rfl,z⟩)) ⟨32,_,rfl,by decide⟩)) ⟨32,_,rfl,by decide⟩)) ⟨32,_,rfl,by decide⟩
  ·have o:=uL d a u y
   have H:=uL d b v N;exact o.then (Lx.bl (c:=32) (by decide) (Lx.one 61 (by decide) (Lx.bl (c:=32) (by decide) (H.then Lx.semi ⟨59,_,rfl,z⟩)) ⟨32,_,rfl,by decide⟩)) ⟨32,_,rfl,A⟩
  ·exact (Lx.word (s:=[114,101,116,117,114,110]) (by decide)).app Lx.semi ⟨59,_,rfl,by decide⟩
  ·have o:=uL d a u y
   exact (Lx.word (s:=[114,101,116,117,114,110]) (by decide)).app (Lx.bl (c:=32) (by decide) (o.then Lx.semi ⟨59,_,rfl,z⟩)) ⟨32,_,rfl,by decide⟩
  ·have o:=uL d a u y
   exact o.then Lx.semi ⟨59,_,rfl,z⟩
  ·have o:=uL d a u y
   obtain ⟨I,-⟩:=Uf G J;obtain ⟨H,-⟩:=Uf L T;have D:Lx U2 (c++[10]) ((gT [123]::(YE els++[gT [125]]))++[]):=H.app Lx.nl ⟨10,_,rfl,by decide⟩
   rw [List.append_nil] at D;have R:Lx U2 ([101,108,115,101]++(32::(c++[10]))) ([XJ [101,108,115,101]]++(gT [123]::(YE els++[gT [125]]))):=(Lx.word (by decide)).app (Lx.bl (c:=32) (by decide) D) ⟨32,_,rfl,by decide⟩
   have O:=I.app (Lx.bl (c:=32) (by decide) R) ⟨32,_,rfl,by decide⟩
   have U:=(Lx.word (s:=[105,102]) (by decide)).app (Lx.bl (c:=32) (by decide) (o.then (Lx.bl (c:=32) (by decide) O) ⟨32,_,rfl,A⟩)) ⟨32,_,rfl,by decide⟩
   have e:uM 4 s ([a].map Yc) (YE body) (YE els)=[XJ [105,102]]++(Yc a++((gT [123]::(YE body++[gT [125]]))++([XJ [101,108,115,101]]++(gT [123]::(YE els++[gT [125]]))))):=by
    show XJ [105,102]::(Yc a++(gT [123]::(YE body++(gT [125]::XJ [101,108,115,101]::gT [123]::(YE els++[gT [125]])))))=_
    simp
   rw [e];exact U
  ·have o:=uL d a u y
   obtain ⟨I,-⟩:=Uf G J;have D:Lx U2 (b++[10]) ((gT [123]::(YE body++[gT [125]]))++[]):=I.app Lx.nl ⟨10,_,rfl,by decide⟩
   rw [List.append_nil] at D;rcases Q with rfl | rfl
   ·exact (Lx.word (s:=[105,102]) (by decide)).app (Lx.bl (c:=32) (by decide) (o.then (Lx.bl (c:=32) (by decide) D) ⟨32,_,rfl,A⟩)) ⟨32,_,rfl,by decide⟩
   ·exact (Lx.word (s:=[119,104,105,108,101]) (by decide)).app (Lx.bl (c:=32) (by decide) (o.then (Lx.bl (c:=32) (by decide) D) ⟨32,_,rfl,A⟩)) ⟨32,_,rfl,by decide⟩
end Go.Proofs.YtpejpbbdgblbeaaGreatDoor
