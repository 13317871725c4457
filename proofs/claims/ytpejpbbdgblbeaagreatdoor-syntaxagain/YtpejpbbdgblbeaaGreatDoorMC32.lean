import Derived.Test.YtpejpbbdgblbeaaGreatDoorMC31
import Derived.Test.YtpejpbbdgblbeaaGreatDoorMC4
import Derived.Test.YtpejpbbdgblbeaaGreatDoorMC40
import Derived.Test.YtpejpbbdgblbeaaGreatDoorMC8
import Derived.Test.YtpejpbbdgblbeaaGreatDoorMC22
import Derived.Test.YtpejpbbdgblbeaaGreatDoorMC34
import Derived.Test.YtpejpbbdgblbeaaGreatDoorMC12
namespace Go.Proofs.YtpejpbbdgblbeaaGreatDoor
open Go.RowKit Go.Shelf
set_option maxRecDepth 100000
def yG (f:Nat) (l:List UInt8):Ex × Nat × Nat :=
 if (xO l).2.2≠0 then (XH,(xO l).2.1,(xO l).2.2) else
 match zf f 1 (xO l).1 with
 | none=>(XH,0,99)
 | some res=>match Yk res with
  | .error a=>(XH,a,6)
  | .ok y=>if 24<zO y then (XH,0,7) else (y,0,0)
theorem zbh {l:List UInt8} {x:Ex} {a e:Nat} (f:Nat) (hl:l.length≤4096) (h:YB l x a e) (hd:(yG f l).2.2≠99):yG f l=(x,a,e):=by
 unfold YB at h
 rw [zcR hl] at h
 unfold yG at hd ⊢
 by_cases hc:(xO l).2.2≠0
 ·rw [if_pos hc] at h ⊢
  obtain ⟨rfl,rfl,rfl⟩:=h
  rfl
 ·rw [if_neg hc] at h hd ⊢
  obtain ⟨A,res,z,o⟩:=h;cases hp:zf f 1 (xO l).1 with
  | none=>rw [hp] at hd;exact absurd rfl hd
  | some r2 =>
   obtain rfl:=vR hp z;cases hw:Yk r2 with
   | error a=>rw [hw] at o;obtain ⟨rfl,rfl,rfl⟩:=o;simp only [hw]
   | ok y =>
    rw [hw] at o;simp only [hw] at o ⊢
    by_cases hdp:24<zO y
    ·rw [if_pos hdp] at o ⊢;obtain ⟨rfl,rfl,rfl⟩:=o;rfl
    ·rw [if_neg hdp] at o ⊢;obtain ⟨rfl,rfl,rfl⟩:=o;rfl
theorem Vu:∀(f:Nat) (rs:List Rc) (fs:List Fc) (ts:List Tk) (r:PR Pg),Zm f rs fs ts=some r→Zm (f+1) rs fs ts=some r
 | 0,_,_,_,_,h=>by cases h
 | f+1,rs,fs,ts,r,h=>by
  rw [Zm] at h ⊢
  split at h
  ·rename_i y;rw [if_pos y];exact h
  ·rename_i y
   rw [if_neg y]
   split at h
   ·rename_i z
    rw [if_pos z];exact zG h (fun _=>VM) fun x us r hr=>Vu f _ _ _ _ hr
   ·rename_i z
    rw [if_neg z]
    split at h
    ·rename_i o
     rw [if_pos o];exact zG h (fun _=>UK) fun x us r hr=>Vu f _ _ _ _ hr
    ·rename_i o
     rw [if_neg o];exact h
theorem VV {f k:Nat} {rs:List Rc} {fs:List Fc} {ts:List Tk} {r:PR Pg} (h:Zm f rs fs ts=some r):Zm (f+k) rs fs ts=some r:=by
 induction k with
 | zero=>exact h
 | succ k ih=>exact Vu _ _ _ _ _ ih
theorem Vv {f f':Nat} {rs:List Rc} {fs:List Fc} {ts:List Tk} {r r':PR Pg} (h:Zm f rs fs ts=some r) (h':Zm f' rs fs ts=some r'):r=r':=by
 have a:=VV (k:=f') h;have b:=VV (k:=f) h';rw [Nat.add_comm] at b;exact Option.some.inj (a.symm.trans b)
def VW (f:Nat) (l:List UInt8):Pg × Nat × Nat :=
 if (xO l).2.2≠0 then (YA,(xO l).2.1,(xO l).2.2) else
 match Zm f [] [] (xO l).1 with
 | none=>(YA,0,99)
 | some res=>match yi res with
  | .error a=>(YA,a,6)
  | .ok y=>if 24<depthFs y.funs then (YA,0,7) else (y,0,0)
theorem zbi {l:List UInt8} {x:Pg} {a e:Nat} (f:Nat) (hl:l.length≤4096) (h:Z2 l x a e) (hd:(VW f l).2.2≠99):VW f l=(x,a,e):=by
 unfold Z2 at h
 rw [zcR hl] at h
 unfold VW at hd ⊢
 by_cases hc:(xO l).2.2≠0
 ·rw [if_pos hc] at h ⊢
  obtain ⟨rfl,rfl,rfl⟩:=h
  rfl
 ·rw [if_neg hc] at h hd ⊢
  obtain ⟨A,res,z,o⟩:=h;cases hp:Zm f [] [] (xO l).1 with
  | none=>rw [hp] at hd;exact absurd rfl hd
  | some r2 =>
   obtain rfl:=Vv hp z;cases hw:yi r2 with
   | error a=>rw [hw] at o;obtain ⟨rfl,rfl,rfl⟩:=o;simp only [hw]
   | ok y =>
    rw [hw] at o;simp only [hw] at o ⊢
    by_cases hdp:24<depthFs y.funs
    ·rw [if_pos hdp] at o ⊢;obtain ⟨rfl,rfl,rfl⟩:=o;rfl
    ·rw [if_neg hdp] at o ⊢;obtain ⟨rfl,rfl,rfl⟩:=o;rfl
def zfG:Nat→Nat→List UInt8
 | 0,_=>[]
 | f+1,u=>if u<10 then [UInt8.ofNat (48+u)] else zfG f (u / 10)++[UInt8.ofNat (48+u % 10)]
theorem Q7:∀(f u:Nat),u<f→Lib.decDigits u=zfG f u
 | 0,u,h=>by omega
 | f+1,u,h=>by
  rw [Lib.decDigits,zfG]
  by_cases h9:u<10
  ·rw [dif_pos h9,if_pos h9]
  ·rw [dif_neg h9,if_neg h9,Q7 f _ (by omega)]
def wrC (k n:Int) (s:List UInt8):List UInt8:=if k=2 then (if n<0 then 45::zfG (n.natAbs+1) n.natAbs else zfG (n.toNat+1) n.toNat) else if k=3 then yg s else s
theorem zcv (k n:Int) (s:List UInt8):xI k n s=wrC k n s:=by
 unfold xI wrC Lib.itoa
 rw [Q7 (n.natAbs+1) _ (by omega),Q7 (n.toNat+1) _ (by omega)]
def zg1 (k n:Int) (s:List UInt8):Option (List UInt8) :=
 if (Zc (wrC k n s)).e=0∧((Zc (wrC k n s)).k:Int)=k∧(Zc (wrC k n s)).s=s∧((Zc (wrC k n s)).n:Int)=n then some (wrC k n s) else none
theorem zg2 (k n:Int) (s:List UInt8):tokO k n s=zg1 k n s:=by
 unfold tokO tkB zg1
 by_cases h:ZO k n s
 ·have o:=h
  unfold ZO at o
  rw [zcv] at o;rw [if_pos h,if_pos rfl,if_pos o];show some (xI k n s)=_
  rw [zcv]
 ·have o:=h
  unfold ZO at o
  rw [zcv] at o;rw [if_neg h,if_neg o]
  rfl
theorem zil:tokO=zg1:=funext fun k=>funext fun n=>funext fun s=>zg2 k n s
def prG (tok:Int→Int→List UInt8→Option (List UInt8)):Nat→Ez→Option (List UInt8)
 | 0,_=>none
 | d+1,.mk k s n kids _ =>
  if yQ k s n kids.length=true then
   if k=1 then tok 2 n []
   else if k=2 then some (if n=0 then [102,97,108,115,101] else [116,114,117,101])
   else if k=3 then tok 3 0 s
   else if k=4 then tok 1 0 s
   else if k=5 then zc (tok 1 0 s) (zc (some [40]) (zc (rowO (kids.map (prG tok d)) kids.length) (some [41])))
   else if k=11 then zc (some [110,101,119,32]) (zc (tok 1 0 s) (zc (some [40]) (zc (rowO (kids.map (prG tok d)) kids.length) (some [41]))))
   else if k=10 then zc (some [91]) (zc (rowO (kids.map (prG tok d)) kids.length) (some [93]))
   else if k=6 then match kids with
    | a::_=>zc (some s) (kidO a 7 (prG tok d a))
    | _=>none
   else if k=7 then match kids with
    | a::b::_=>zc (kidO a (levelOf s) (prG tok d a)) (zc (some [32]) (zc (some s) (zc (some [32]) (kidO b (levelOf s+1) (prG tok d b)))))
    | _=>none
   else if k=8 then match kids with
    | a::b::_=>zc (kidO a 8 (prG tok d a)) (zc (some [91]) (zc (prG tok d b) (some [93])))
    | _=>none
   else if k=9 then match kids with
    | a::_=>zc (kidO a 8 (prG tok d a)) (zc (some [46]) (tok 1 0 s))
    | _=>none
   else none
  else none
theorem zfH:∀d,prE d=prG tokO d
 | 0=>rfl
 | d+1=>by
  funext x
  obtain ⟨k,s,n,kids,line⟩:=x
  unfold prE prG
  rw [zfH d]
  rfl
theorem zbj (d:Nat):prE d=prG zg1 d:=by rw [zfH,zil]
def tx1:List UInt8:=[49,45,40,50,45,51,41]
def tx2:List UInt8:=[40,49,45,50,41,45,51]
def tx3:List UInt8:=[45,97,46,98,91,48,93]
def tx4:List UInt8:=[40,45,97,41,46,98]
def tx5:List UInt8:=[33,40,120,38,38,121,41]
def ty1:List UInt8:=[49,32,45,32,40,50,32,45,32,51,41]
def ty2:List UInt8:=[49,32,45,32,50,32,45,32,51]
def ty5:List UInt8:=[33,40,120,32,38,38,32,121,41]
def zi2:List UInt8:=[49,43]
def txF:List UInt8:=[102,110,32,102,40,41,123,49,61,50,59,125]
def txP:List UInt8:=[114,101,99,111,114,100,32,80,123,120,58,105,110,116,125,10,102,110,32,102,40,97,58,91,105,110,116,93,41,58,105,110,116,123,114,101,116,117,114,110,32,97,91,48,93,59,125]
def tyP:List UInt8:=[114,101,99,111,114,100,32,80,32,123,32,120,58,32,105,110,116,32,125,10,102,110,32,102,40,97,58,32,91,105,110,116,93,41,58,32,105,110,116,32,123,10,114,101,116,117,114,110,32,97,91,48,93,59,10,125,10]
theorem cx1:yG 60 tx1=((yG 60 tx1).1,0,0)∧VZ (yG 60 tx1).1=true:=by constructor <;> kernel_rfl
theorem cx2:yG 60 tx2=((yG 60 tx2).1,0,0)∧VZ (yG 60 tx2).1=true:=by constructor <;> kernel_rfl
theorem cx3:yG 60 tx3=((yG 60 tx3).1,0,0)∧VZ (yG 60 tx3).1=true:=by constructor <;> kernel_rfl
theorem cx4:yG 60 tx4=((yG 60 tx4).1,0,0)∧VZ (yG 60 tx4).1=true:=by constructor <;> kernel_rfl
theorem cx5:yG 60 tx5=((yG 60 tx5).1,0,0)∧VZ (yG 60 tx5).1=true:=by constructor <;> kernel_rfl
theorem cp1:prR (prE 24 (Xr (yG 60 tx1).1))=(ty1,0):=by rw [zbj];kernel_rfl
theorem cp2:prR (prE 24 (Xr (yG 60 tx2).1))=(ty2,0):=by rw [zbj];kernel_rfl
theorem cp3:prR (prE 24 (Xr (yG 60 tx3).1))=(tx3,0):=by rw [zbj];kernel_rfl
theorem cp4:prR (prE 24 (Xr (yG 60 tx4).1))=(tx4,0):=by rw [zbj];kernel_rfl
theorem cp5:prR (prE 24 (Xr (yG 60 tx5).1))=(ty5,0):=by rw [zbj];kernel_rfl
theorem cxE:yG 60 zi2=(XH,2,6):=by kernel_rfl
theorem cxF:VW 60 txF=(YA,8,6):=by kernel_rfl
theorem cxP:VW 60 txP=((VW 60 txP).1,0,0)∧zcl (VW 60 txP).1=true:=by constructor <;> kernel_rfl
theorem cpP:prR (vd (VU (VW 60 txP).1))=(tyP,0):=by kernel_rfl
def Sg (c:UInt8):Prop:=c≠61∧c≠38∧c≠124∧c≠47
def Nm (c:UInt8):Prop:=yu c.toNat=false
def Sp (c:UInt8):Prop:=Sg c∧Nm c
def Vw (_:UInt8):Prop:=True
instance (c:UInt8):Decidable (Sg c):=by unfold Sg;infer_instance
instance (c:UInt8):Decidable (Nm c):=by unfold Nm;infer_instance
instance (c:UInt8):Decidable (Sp c):=by unfold Sp;infer_instance
def Lx (P:UInt8→Prop) (t:List UInt8) (K:List Tk):Prop:=∀(m:List UInt8) (f:Nat) (us:List Tk),(∀c,m.head?=some c→P c)→xE f m=some us→∃f',xE f' (t++m)=some (K++us)
def Hd (P:UInt8→Prop) (t:List UInt8):Prop:=∃c r,t=c::r∧P c
theorem Hd.app {P:UInt8→Prop} {t:List UInt8} (h:Hd P t) (u:List UInt8):Hd P (t++u):=by
 obtain ⟨c,r,rfl,h⟩:=h;exact ⟨c,r++u,rfl,h⟩
theorem Hd.at {P:UInt8→Prop} {t:List UInt8} (h:Hd P t) (m:List UInt8) (c:UInt8) (hc:(t++m).head?=some c):P c:=by
 obtain ⟨d,r,rfl,h⟩:=h;obtain rfl:d=c:=by simpa using hc
 exact h
theorem Lx.mono {P Q:UInt8→Prop} {t:List UInt8} {K:List Tk} (h:Lx P t K) (hq:∀c,Q c→P c):Lx Q t K:=fun m f us hm hf=>h m f us (fun c hc=>hq c (hm c hc)) hf
theorem Lx.app {P Q:UInt8→Prop} {a b:List UInt8} {A B:List Tk} (h1:Lx P a A) (h2:Lx Q b B) (hd:Hd P b):Lx Q (a++b) (A++B):=fun m f us hm hf=>by
 obtain ⟨h,y⟩:=h2 m f us hm hf;obtain ⟨z,o⟩:=h1 (b++m) h (B++us) (hd.at m) y;exact ⟨z,by rw [List.append_assoc,List.append_assoc];exact o⟩
theorem Lx.nil (P:UInt8→Prop):Lx P [] []:=fun _ f _ _ hf=>⟨f,hf⟩
theorem Lx.bl {Q:UInt8→Prop} {c:UInt8} (hc:zV c.toNat=true) {b:List UInt8} {B:List Tk} (h:Lx Q b B):Lx Q (c::b) B:=fun m f us hm hf=>by
 obtain ⟨o,y⟩:=h m f us hm hf;exact ⟨o,by rw [List.cons_append,zcu hc];exact y⟩
theorem Lx.tok {t:TT} (h:zdF t) {P:UInt8→Prop} (hp:∀c,P c→(t.k=4→c≠61∧c≠38∧c≠124∧c≠47)∧(t.k≠4→t.k≠3→yu c.toNat=false)):Lx P (xI t.k t.n t.s) [ttT t]:=fun _ f _ hm hf =>
 ⟨f+1,zfD h (fun c hc=>hp c (hm c hc)) hf⟩
theorem zg3 {s:List UInt8} (h:s∈signsL):zdF ⟨4,0,s⟩:=⟨(ZR (k:=4) (n:=0) (by decide) (by decide)).2 (.inr (.inr (.inl ⟨rfl,h,rfl⟩))),(show (4:Int)≠0 by decide),(show (0:Int)≤9223372036854775807 by decide)⟩
theorem zg4 {s:List UInt8} (h:yp s=true):zdF ⟨5,0,s⟩:=⟨(ZR (k:=5) (n:=0) (by decide) (by decide)).2 (.inr (.inr (.inr ⟨rfl,h,rfl⟩))),(show (5:Int)≠0 by decide),(show (0:Int)≤9223372036854775807 by decide)⟩
theorem Lx.sign {s:List UInt8} (h:s∈signsL):Lx Sg s [gT s]:=Lx.tok (zg3 h) fun _ hc=>⟨fun _=>hc,fun h=>absurd rfl h⟩
theorem Lx.word {s:List UInt8} (h:yp s=true):Lx Nm s [XJ s]:=Lx.tok (zg4 h) fun _ hc=>⟨fun h=>absurd h (show (5:Int)≠4 by decide),fun _ _=>hc⟩
theorem Lx.one (s:UInt8) (h:[s]∈signsL) {Q:UInt8→Prop} {b:List UInt8} {B:List Tk} (hb:Lx Q b B) (hd:Hd Sg b):Lx Q (s::b) (gT [s]::B):=(Lx.sign h).app hb hd
theorem Lx.name {s t:List UInt8} (h:tokO 1 0 s=some t):Lx Nm t [nmT s]∧Hd Sg t:=by
 obtain ⟨z,y⟩:=Xp h (by decide)
 have y:t=s:=y;subst y;refine ⟨Lx.tok z fun _ hc=>⟨fun h=>absurd h (show (1:Int)≠4 by decide),fun _ _=>hc⟩,?_⟩
 have o:Y3 t=true:=by
  rcases (ZR (k:=1) (n:=0) (by decide) (by decide)).1 z.1 with ⟨h,-⟩ | ⟨-,h,-⟩ | ⟨h,-⟩ | ⟨h,-⟩
  ·exact absurd h (by decide)
  ·exact h
  ·exact absurd h (by decide)
  ·exact absurd h (by decide)
 show Hd Sg t
 cases t with
 | nil=>simp [Y3] at o
 | cons c r =>
  unfold Y3 at o
  simp only at o;rw [Bool.and_eq_true,Bool.and_eq_true,Bool.and_eq_true,decide_eq_true_eq] at o;obtain ⟨⟨⟨A,H⟩,D⟩,G⟩:=o;refine ⟨c,r,rfl,?_,?_,?_,?_⟩ <;> (rintro rfl;revert A;decide)
structure Q8 (t:List UInt8) (K:List Tk):Prop where
 lx:Lx Sp t K
 hd:Hd Sg t
theorem zc9 {c:UInt8} (h:Sp c):Sg c:=h.1
theorem zbk {c:UInt8} (h:Sp c):Nm c:=h.2
theorem Q8.paren {t:List UInt8} {K:List Tk} (h:Q8 t K):Q8 (40::(t++[41])) (gT [40]::(K++[gT [41]])) :=
 ⟨Lx.one 40 (by decide) (h.lx.app ((Lx.sign (s:=[41]) (by decide)).mono fun _=>zc9) ⟨41,[],rfl,by decide⟩) (h.hd.app _),40,_,rfl,by decide⟩
theorem Q8.kid {t:List UInt8} {x:Ez} {least:Nat} {o:Option (List UInt8)} (h:kidO x least o=some t) (hx:∀v,o=some v→Q8 v (Yc x)):Q8 t (Xn (decide (least≤X7 x)) (Yc x)):=by
 obtain ⟨v,y,rfl⟩:=Xo h
 have:=hx v y
 unfold Xn
 by_cases hc:least≤X7 x
 ·rw [if_pos hc,if_pos (decide_eq_true hc)];exact this
 ·rw [if_neg hc,if_neg (by simpa using hc)];exact this.paren
theorem qG {α:Type} {K:α→List Tk} {kids:List α} {i:Nat} (hi:i<kids.length):(kids.take (i+1)).map K=(kids.take i).map K++[K kids[i]]:=by
 rw [List.take_succ_eq_append_getElem hi,List.map_append]
 rfl
theorem Q9 {α:Type} {g:α→Option (List UInt8)} {K:α→List Tk} {kids:List α} (ih:∀x∈kids,∀t,g x=some t→Q8 t (K x)):∀(i:Nat) (v:List UInt8),i≤kids.length→rowO (kids.map g) i=some v→Lx Sp v (yM ((kids.take i).map K))∧(0<i→Hd Sg v)∧(i=0→v=[])
 | 0,v,_,h=>by
  obtain rfl:=Option.some.inj h;exact ⟨Lx.nil _,fun h=>absurd h (by decide),fun _=>rfl⟩
 | i+1,v,hi,h=>by
  unfold rowO at h
  obtain ⟨a,b,D,I,rfl⟩:=zn h;obtain ⟨c,w,A,z,rfl⟩:=zn I;obtain rfl:=Option.some.inj A;obtain ⟨J,H,G⟩:=Q9 ih i a (by omega) D
  rw [List.getElem?_map,List.getElem?_eq_getElem (by omega)] at z
  have y:=ih _ (List.getElem_mem (show i<kids.length by omega)) w z
  rw [qG (by omega),zea]
  by_cases h0:i=0
  ·obtain rfl:=G h0
   subst h0;refine ⟨?_,fun _=>?_,fun h=>absurd h (by omega)⟩
   ·exact y.lx
   ·exact y.hd
  ·have o:¬ (kids.take i).map K=[]:=by
    intro e
    have:((kids.take i).map K).length=0:=by rw [e];rfl
    rw [List.length_map,List.length_take] at this;omega
   rw [if_neg h0,if_neg o];exact ⟨J.app (Lx.one 44 (by decide) (Lx.bl (c:=32) (by decide) y.lx) ⟨32,w,rfl,by decide⟩) ⟨44,_,rfl,by decide⟩,fun _=>(H (by omega)).app _,fun h=>absurd h (by omega)⟩
theorem zaa {α:Type} {g:α→Option (List UInt8)} {K:α→List Tk} {kids:List α} (ih:∀x∈kids,∀t,g x=some t→Q8 t (K x)) {v:List UInt8} (h:rowO (kids.map g) kids.length=some v) (c:UInt8) (hc:[c]∈signsL) (hs:Sp c):Lx Sp (v++[c]) (yM (kids.map K)++[gT [c]])∧Hd Sg (v++[c]):=by
 obtain ⟨o,y,z⟩:=Q9 ih kids.length v (Nat.le_refl _) h;rw [List.take_length] at o;refine ⟨o.app ((Lx.sign hc).mono fun _=>zc9) ⟨c,[],rfl,hs⟩,?_⟩
 by_cases h0:kids.length=0
 ·rw [z h0];exact ⟨c,[],rfl,hs.1⟩
 ·exact (y (by omega)).app _
theorem zcw {s:List UInt8} (h:0<levelOf s):s∈signsL∧Hd Sp (32::s):=by
 obtain ⟨i,A⟩:∃i,levelOf s=i+1:=⟨levelOf s-1,by omega⟩
 have z:=YK s;have y:=ze0 A;refine ⟨?_,32,s,rfl,by decide⟩
 have o:∀i,i<6→∀s∈rowT i,s∈signsL:=by decide
 exact o i (by omega) s y
theorem uM:∀(d:Nat) (x:Ez) (t:List UInt8),prE d x=some t→Q8 t (Yc x)
 | 0,x,t,h=>by rw [prE] at h;cases h
 | d+1,.mk k s n kids line,t,h=>by
  have D:=uM d;have H:∀x∈kids,∀t,prE d x=some t→Q8 t (Yc x):=fun x _ t h=>D x t h
  have Y:Yc (.mk k s n kids line)=uL k s n (kids.map X7) (kids.map Yc):=by rw [Yc,zc6]
  rw [Y];rcases zc8 h with ⟨rfl,rfl,rfl,L⟩ | ⟨rfl,rfl,rfl,V⟩ | ⟨rfl,rfl,rfl,L⟩ | ⟨rfl,rfl,rfl,L⟩ | ⟨rfl,rfl,u,v,z,o,rfl⟩ | ⟨rfl,rfl,u,v,z,o,rfl⟩ | ⟨rfl,rfl,rfl,T,v,o,rfl⟩ | ⟨rfl,rfl,R,a,u,rfl,z,rfl⟩ | ⟨rfl,rfl,U,a,b,u,v,rfl,z,o,rfl⟩ | ⟨rfl,rfl,rfl,a,b,u,v,rfl,z,o,rfl⟩ | ⟨rfl,rfl,a,u,v,rfl,z,o,rfl⟩
  ·obtain ⟨y,rfl⟩:=Xp L (by decide)
   refine ⟨Lx.tok y fun c Q=>⟨fun h=>absurd h (show (2:Int)≠4 by decide),fun _ _=>Q.2⟩,?_⟩
   have W:0≤n:=by
    have:=y.1.2.2.2
    simp only at this;omega
   have Z:xI 2 n []=Lib.decDigits n.toNat:=by
    show Lib.itoa n=_
    unfold Lib.itoa
    rw [if_neg (by omega)]
   show Hd Sg (xI 2 n [])
   rw [Z];cases hd:Lib.decDigits n.toNat with
   | nil=>exact absurd hd (zbP _)
   | cons c r =>
    have Q:=u7 n.toNat c (by rw [hd];exact List.mem_cons_self ..)
    refine ⟨c,r,rfl,?_,?_,?_,?_⟩ <;> (rintro rfl;revert Q;decide)
  ·rcases V with ⟨rfl,rfl⟩ | ⟨rfl,rfl⟩
   ·exact ⟨(Lx.word (by decide)).mono fun _=>zbk,102,_,rfl,by decide⟩
   ·exact ⟨(Lx.word (by decide)).mono fun _=>zbk,116,_,rfl,by decide⟩
  ·obtain ⟨y,rfl⟩:=Xp L (by decide)
   exact ⟨Lx.tok y fun c _=>⟨fun h=>absurd h (show (3:Int)≠4 by decide),fun _ h=>absurd rfl h⟩,34,_,rfl,by decide⟩
  ·obtain ⟨y,I⟩:=Lx.name L
   exact ⟨y.mono fun _=>zbk,I⟩
  ·obtain ⟨y,I⟩:=Lx.name z
   obtain ⟨J,N⟩:=zaa H o 41 (by decide) (by decide)
   exact ⟨y.app (Lx.one 40 (by decide) J N) ⟨40,_,rfl,by decide⟩,I.app _⟩
  ·obtain ⟨y,I⟩:=Lx.name z
   obtain ⟨J,N⟩:=zaa H o 41 (by decide) (by decide)
   exact ⟨(Lx.word (s:=[110,101,119]) (by decide)).app (Lx.bl (c:=32) (by decide) (y.app (Lx.one 40 (by decide) J N) ⟨40,_,rfl,by decide⟩)) ⟨32,_,rfl,by decide⟩,110,_,rfl,by decide⟩
  ·obtain ⟨J,N⟩:=zaa H o 93 (by decide) (by decide)
   exact ⟨Lx.one 91 (by decide) J N,91,_,rfl,by decide⟩
  ·have A:=Q8.kid z fun v o=>D a v o
   have G:s∈signsL:=by rcases R with rfl | rfl <;> decide
   refine ⟨(Lx.sign G).app A.lx A.hd,?_⟩;rcases R with rfl | rfl <;> exact ⟨_,_,rfl,by decide⟩
  ·have A:=Q8.kid z fun v o=>D a v o
   have O:=Q8.kid o fun v o=>D b v o
   obtain ⟨G,-⟩:=zcw U;refine ⟨A.lx.app (Lx.bl (c:=32) (by decide) ((Lx.sign G).app (Lx.bl (c:=32) (by decide) O.lx) ⟨32,_,rfl,by decide⟩)) ⟨32,_,rfl,by decide⟩,A.hd.app _⟩
  ·have A:=Q8.kid z fun v o=>D a v o
   have O:=D b v o;refine ⟨A.lx.app (Lx.one 91 (by decide) (O.lx.app ((Lx.sign (s:=[93]) (by decide)).mono fun _=>zc9) ⟨93,[],rfl,by decide⟩) (O.hd.app _)) ⟨91,_,rfl,by decide⟩,A.hd.app _⟩
  ·have A:=Q8.kid z fun v o=>D a v o
   obtain ⟨y,I⟩:=Lx.name o;refine ⟨A.lx.app (Lx.one 46 (by decide) (y.mono fun _=>zbk) I) ⟨46,_,rfl,by decide⟩,A.hd.app _⟩
def uN (k:Int) (s:List UInt8) (E:List (List Tk)) (body els:List Tk):List Tk :=
 match E with
 | [a] =>
  if k=1 then XJ [108,101,116]::nmT s::gT [61]::(a++[gT [59]])
  else if k=6 then XJ [114,101,116,117,114,110]::(a++[gT [59]])
  else if k=7 then a++[gT [59]]
  else if k=4 then XJ [105,102]::(a++(gT [123]::(body++(gT [125]::XJ [101,108,115,101]::gT [123]::(els++[gT [125]])))))
  else XJ (if k=5 then [119,104,105,108,101] else [105,102])::(a++(gT [123]::(body++[gT [125]])))
 | [a,b]=>a++(gT [61]::(b++[gT [59]]))
 | _=>[XJ [114,101,116,117,114,110],gT [59]]
mutual
def ktS:Sz→List Tk
 | .mk k s es body els _=>uN k s (es.map Yc) (YE body) (YE els)
def YE:List Sz→List Tk
 | []=>[]
 | x::xs=>ktS x++YE xs
end
mutual
def zzS:Sz→St
 | .mk k s es body els _=>.mk k.toNat s (es.map V0) (zzC body) (zzC els) 0
def zzC:List Sz→List St
 | []=>[]
 | x::xs=>zzS x::zzC xs
end
theorem zg5 (a b:List Sz):YE (a++b)=YE a++YE b:=by
 induction a with
 | nil=>rfl
 | cons x xs ih=>rw [List.cons_append,YE,YE,ih,List.append_assoc]
theorem zbm {f:Sz→Option (List UInt8)} {l:List Sz} {t:List UInt8} (h:blkO f l=some t):∃w,yL (l.map f) l.length=some w∧t=[123,10]++(w++[125]):=by
 unfold blkO at h
 obtain ⟨a,b,y,z,rfl⟩:=zn h;obtain ⟨c,e,o,A,rfl⟩:=zn z;obtain rfl:=Option.some.inj y;obtain rfl:=Option.some.inj A;exact ⟨c,o,rfl⟩
theorem zdb {d:Nat} {k:Int} {s:List UInt8} {es:List Ez} {body els:List Sz} {line:Int} {t:List UInt8} (h:prS (d+1) (.mk k s es body els line)=some t) :
  (k=1∧body=[]∧els=[]∧∃a u v,es=[a]∧tokO 1 0 s=some u∧prE d a=some v∧t=[108,101,116,32]++(u++([32,61,32]++(v++[59,10])))) ∨
  (k=2∧s=[]∧body=[]∧els=[]∧∃a b u v,es=[a,b]∧x9 a=true∧prE d a=some u∧prE d b=some v∧t=u++([32,61,32]++(v++[59,10]))) ∨
  (k=6∧s=[]∧body=[]∧els=[]∧es=[]∧t=[114,101,116,117,114,110]++[59,10]) ∨
  (k=6∧s=[]∧body=[]∧els=[]∧∃a u,es=[a]∧prE d a=some u∧t=[114,101,116,117,114,110]++([32]++(u++[59,10]))) ∨
  (k=7∧s=[]∧body=[]∧els=[]∧∃a u,es=[a]∧prE d a=some u∧t=u++[59,10]) ∨
  (k=4∧s=[]∧∃a u b c,es=[a]∧prE d a=some u∧blkO (prS d) body=some b∧blkO (prS d) els=some c∧t=[105,102,32]++(u++([32]++(b++([32,101,108,115,101,32]++(c++[10])))))) ∨
  ((k=3∨k=5)∧s=[]∧els=[]∧∃a u b,es=[a]∧prE d a=some u∧blkO (prS d) body=some b∧t=(if k=5 then [119,104,105,108,101,32] else [105,102,32])++(u++([32]++(b++[10])))):=by
 rw [vo] at h
 unfold prT at h
 by_cases hst:Ye k s es body.length els.length=true
 case neg=>rw [if_neg hst] at h;cases h
 case pos =>
 rw [if_pos hst] at h
 unfold Ye hasX at hst
 rw [Bool.and_eq_true,Bool.and_eq_true,Bool.and_eq_true] at hst;obtain ⟨⟨⟨o,J⟩,hb⟩,V⟩:=hst;simp only [Bool.or_eq_true,beq_iff_eq] at J hb V
 by_cases h1:k=1
 ·subst h1
  rw [if_pos (.inl rfl)] at o;obtain ⟨a,rfl⟩:=List.length_eq_one_iff.1 (by simpa using o)
  rw [if_pos rfl] at h;obtain ⟨x1,L,y,z,rfl⟩:=zn h;obtain ⟨x2,R,H,A,rfl⟩:=zn z;obtain ⟨I,T,G,D,rfl⟩:=zn A;obtain ⟨O,U,N,Q,rfl⟩:=zn D;obtain rfl:=Option.some.inj y;obtain rfl:=Option.some.inj G;obtain rfl:=Option.some.inj Q;exact .inl ⟨rfl,List.eq_nil_of_length_eq_zero (by omega),List.eq_nil_of_length_eq_zero (by omega),a,x2,O,rfl,H,N,rfl⟩
 right
 rw [if_neg h1] at h;obtain rfl:s=[]:=by rcases J with J | J;exact absurd J h1;exact J
 by_cases h2:k=2
 ·subst h2
  rw [if_neg (by omega),if_pos rfl] at o
  obtain ⟨a,b,rfl,hp⟩:∃a b,es=[a,b]∧x9 a=true:=by
   match es,o with
   | [a,b],o=>exact ⟨a,b,rfl,o⟩
  rw [if_pos rfl] at h;obtain ⟨x1,L,y,z,rfl⟩:=zn h;obtain ⟨x2,R,H,A,rfl⟩:=zn z;obtain ⟨I,T,G,D,rfl⟩:=zn A;obtain rfl:=Option.some.inj H;obtain rfl:=Option.some.inj D;exact .inl ⟨rfl,rfl,List.eq_nil_of_length_eq_zero (by omega),List.eq_nil_of_length_eq_zero (by omega),a,b,x1,I,rfl,hp,y,G,rfl⟩
 right
 rw [if_neg h2] at h
 by_cases h6:k=6
 ·subst h6
  rw [if_neg (by omega),if_neg (by omega),if_pos rfl] at o
  rw [if_pos rfl] at h
  match es,o with
  | [],_ =>
   obtain ⟨x1,L,y,z,rfl⟩:=zn h;obtain rfl:=Option.some.inj y;obtain rfl:=Option.some.inj z;exact .inl ⟨rfl,rfl,List.eq_nil_of_length_eq_zero (by omega),List.eq_nil_of_length_eq_zero (by omega),rfl,rfl⟩
  | [a],_ =>
   obtain ⟨x1,L,y,z,rfl⟩:=zn h;obtain ⟨x2,R,H,A,rfl⟩:=zn z;obtain ⟨I,T,G,D,rfl⟩:=zn A;obtain rfl:=Option.some.inj y;obtain rfl:=Option.some.inj H;obtain rfl:=Option.some.inj D;exact .inr (.inl ⟨rfl,rfl,List.eq_nil_of_length_eq_zero (by omega),List.eq_nil_of_length_eq_zero (by omega),a,I,rfl,G,rfl⟩)
  | _::_::_,o=>simp at o
 right
 right
 rw [if_neg h6] at h
 by_cases h7:k=7
 ·subst h7
  rw [if_pos (by omega)] at o
  obtain ⟨a,rfl⟩:=List.length_eq_one_iff.1 (by simpa using o)
  rw [if_pos rfl] at h;obtain ⟨x1,L,y,z,rfl⟩:=zn h;obtain rfl:=Option.some.inj z;exact .inl ⟨rfl,rfl,List.eq_nil_of_length_eq_zero (by omega),List.eq_nil_of_length_eq_zero (by omega),a,x1,rfl,y,rfl⟩
 right
 rw [if_neg h7] at h
 by_cases h4:k=4
 ·subst h4
  rw [if_pos (by omega)] at o
  obtain ⟨a,rfl⟩:=List.length_eq_one_iff.1 (by simpa using o)
  rw [if_pos rfl] at h;obtain ⟨x1,L,y,z,rfl⟩:=zn h;obtain ⟨x2,R,H,A,rfl⟩:=zn z;obtain ⟨I,T,G,D,rfl⟩:=zn A;obtain ⟨O,U,N,Q,rfl⟩:=zn D;obtain ⟨x5,y5,Y,Z,rfl⟩:=zn Q;obtain ⟨W,y6,e6,g6,rfl⟩:=zn Z;obtain rfl:=Option.some.inj y;obtain rfl:=Option.some.inj G;obtain rfl:=Option.some.inj Y;obtain rfl:=Option.some.inj g6;exact .inl ⟨rfl,rfl,a,x2,O,W,rfl,H,N,e6,rfl⟩
 right
 rw [if_neg h4] at h
 have hk:k=3∨k=5:=by
  by_cases h3:k=3
  ·exact .inl h3
  ·by_cases h5:k=5
   ·exact .inr h5
   ·rw [if_neg (by omega),if_neg h2,if_neg h6] at o
    cases o
 rw [if_pos (by omega)] at o
 obtain ⟨a,rfl⟩:=List.length_eq_one_iff.1 (by simpa using o)
 obtain ⟨x1,L,y,z,rfl⟩:=zn h;obtain ⟨x2,R,H,A,rfl⟩:=zn z;obtain ⟨I,T,G,D,rfl⟩:=zn A;obtain ⟨O,U,N,Q,rfl⟩:=zn D;obtain rfl:=Option.some.inj y;obtain rfl:=Option.some.inj G;obtain rfl:=Option.some.inj Q;exact ⟨hk,rfl,List.eq_nil_of_length_eq_zero (by omega),a,x2,O,rfl,H,N,rfl⟩
theorem Lx.then {Q:UInt8→Prop} {a b:List UInt8} {A B:List Tk} (h1:Lx Vw a A) (h2:Lx Q b B):Lx Q (a++b) (A++B):=fun m f us hm hf=>by
 obtain ⟨h,y⟩:=h2 m f us hm hf;obtain ⟨z,o⟩:=h1 (b++m) h (B++us) (fun _ _=>trivial) y
 exact ⟨z,by rw [List.append_assoc,List.append_assoc];exact o⟩
theorem Lx.nl:Lx Vw [10] []:=Lx.bl (c:=10) (by decide) (Lx.nil _)
theorem Lx.semi:Lx Vw [59,10] [gT [59]]:=Lx.one 59 (by decide) Lx.nl ⟨10,[],rfl,by decide⟩
theorem Q8.then {t b:List UInt8} {K B:List Tk} {Q:UInt8→Prop} (h:Q8 t K) (h2:Lx Q b B) (hd:Hd Sp b):Lx Q (t++b) (K++B):=h.lx.app h2 hd
theorem zdc {l:List Sz} {d:Nat} (ih:∀x∈l,∀t,prS d x=some t→Lx Vw t (ktS x)):∀(i:Nat) (v:List UInt8),i≤l.length→yL (l.map (prS d)) i=some v→Lx Vw v (YE (l.take i))
 | 0,v,_,h=>by
  obtain rfl:=Option.some.inj h;exact Lx.nil _
 | i+1,v,hi,h=>by
  unfold yL at h
  obtain ⟨a,b,z,o,rfl⟩:=zn h;rw [List.getElem?_map,List.getElem?_eq_getElem (by omega)] at o
  have y:=ih _ (List.getElem_mem (show i<l.length by omega)) b o
  rw [List.take_succ_eq_append_getElem (by omega),zg5]
  refine (zdc ih i a (by omega) z).then ?_
  show Lx Vw b (ktS l[i]++[])
  rw [List.append_nil];exact y
theorem Ug {l:List Sz} {d:Nat} (ih:∀x∈l,∀t,prS d x=some t→Lx Vw t (ktS x)) {t:List UInt8} (h:blkO (prS d) l=some t):Lx Sg t (gT [123]::(YE l++[gT [125]]))∧Hd Sg t:=by
 obtain ⟨w,y,rfl⟩:=zbm h;have o:=zdc ih l.length w (Nat.le_refl _) y;rw [List.take_length] at o;exact ⟨Lx.one 123 (by decide) (Lx.bl (c:=10) (by decide) (o.then (Lx.sign (s:=[125]) (by decide)))) ⟨10,_,rfl,by decide⟩,123,_,rfl,by decide⟩
theorem zfI:∀(d:Nat) (x:Sz) (t:List UInt8),prS d x=some t→Lx Vw t (ktS x)
 | 0,x,t,h=>by rw [prS] at h;cases h
 | d+1,.mk k s es body els line,t,h=>by
  have G:∀x∈body,∀t,prS d x=some t→Lx Vw t (ktS x):=fun x _ t h=>zfI d x t h
  have J:∀x∈els,∀t,prS d x=some t→Lx Vw t (ktS x):=fun x _ t h=>zfI d x t h
  have T:ktS (.mk k s es body els line)=uN k s (es.map Yc) (YE body) (YE els):=by rw [ktS]
  rw [T];have z:Sp 32:=by decide
  have A:Sp 59:=by decide
  rcases zdb h with ⟨rfl,-,-,a,u,v,rfl,y,L,rfl⟩ | ⟨rfl,-,-,-,a,b,u,v,rfl,-,y,L,rfl⟩ | ⟨rfl,-,-,-,rfl,rfl⟩ | ⟨rfl,-,-,-,a,u,rfl,y,rfl⟩ | ⟨rfl,-,-,-,a,u,rfl,y,rfl⟩ | ⟨rfl,-,a,u,b,c,rfl,y,N,O,rfl⟩ | ⟨R,-,-,a,u,b,rfl,y,N,rfl⟩
  ·obtain ⟨o,I⟩:=Lx.name y
   have H:=uM d a v L;exact (Lx.word (s:=[108,101,116]) (by decide)).app (Lx.bl (c:=32) (by decide) (o.app (Lx.bl (c:=32) (by decide) (Lx.one 61 (by decide) (Lx.bl (c:=32) (by decide) (H.then Lx.semi ⟨59,_,rfl,A⟩)) ⟨32,_,rfl,by decide⟩)) ⟨32,_,rfl,by decide⟩)) ⟨32,_,rfl,by decide⟩
  ·have o:=uM d a u y
   have H:=uM d b v L;exact o.then (Lx.bl (c:=32) (by decide) (Lx.one 61 (by decide) (Lx.bl (c:=32) (by decide) (H.then Lx.semi ⟨59,_,rfl,A⟩)) ⟨32,_,rfl,by decide⟩)) ⟨32,_,rfl,z⟩
  ·exact (Lx.word (s:=[114,101,116,117,114,110]) (by decide)).app Lx.semi ⟨59,_,rfl,by decide⟩
  ·have o:=uM d a u y
   exact (Lx.word (s:=[114,101,116,117,114,110]) (by decide)).app (Lx.bl (c:=32) (by decide) (o.then Lx.semi ⟨59,_,rfl,A⟩)) ⟨32,_,rfl,by decide⟩
  ·have o:=uM d a u y
   exact o.then Lx.semi ⟨59,_,rfl,A⟩
  ·have o:=uM d a u y
   obtain ⟨I,-⟩:=Ug G N;obtain ⟨H,-⟩:=Ug J O;have D:Lx Vw (c++[10]) ((gT [123]::(YE els++[gT [125]]))++[]):=H.app Lx.nl ⟨10,_,rfl,by decide⟩
   rw [List.append_nil] at D;have Q:Lx Vw ([101,108,115,101]++(32::(c++[10]))) ([XJ [101,108,115,101]]++(gT [123]::(YE els++[gT [125]]))):=(Lx.word (by decide)).app (Lx.bl (c:=32) (by decide) D) ⟨32,_,rfl,by decide⟩
   have V:=I.app (Lx.bl (c:=32) (by decide) Q) ⟨32,_,rfl,by decide⟩
   have U:=(Lx.word (s:=[105,102]) (by decide)).app (Lx.bl (c:=32) (by decide) (o.then (Lx.bl (c:=32) (by decide) V) ⟨32,_,rfl,z⟩)) ⟨32,_,rfl,by decide⟩
   have e:uN 4 s ([a].map Yc) (YE body) (YE els)=[XJ [105,102]]++(Yc a++((gT [123]::(YE body++[gT [125]]))++([XJ [101,108,115,101]]++(gT [123]::(YE els++[gT [125]]))))):=by
    show XJ [105,102]::(Yc a++(gT [123]::(YE body++(gT [125]::XJ [101,108,115,101]::gT [123]::(YE els++[gT [125]])))))=_
    simp
   rw [e];exact U
  ·have o:=uM d a u y
   obtain ⟨I,-⟩:=Ug G N;have D:Lx Vw (b++[10]) ((gT [123]::(YE body++[gT [125]]))++[]):=I.app Lx.nl ⟨10,_,rfl,by decide⟩
   rw [List.append_nil] at D;rcases R with rfl | rfl
   ·exact (Lx.word (s:=[105,102]) (by decide)).app (Lx.bl (c:=32) (by decide) (o.then (Lx.bl (c:=32) (by decide) D) ⟨32,_,rfl,z⟩)) ⟨32,_,rfl,by decide⟩
   ·exact (Lx.word (s:=[119,104,105,108,101]) (by decide)).app (Lx.bl (c:=32) (by decide) (o.then (Lx.bl (c:=32) (by decide) D) ⟨32,_,rfl,z⟩)) ⟨32,_,rfl,by decide⟩
def Vx (ts:List Tk) (r:PR St):Prop:=∃f,Ze f ts=some r
def BKm (ts:List Tk) (r:PR (List St)):Prop:=∃f,zH f ts=some r
def SSm (pre:List St) (ts:List Tk) (r:PR (List St)):Prop:=∃f,Zd f pre ts=some r
theorem zg6 {f:Nat} (k:Nat) {ts:List Tk} {r:PR St} (h:Ze f ts=some r):Ze (f+k) ts=some r:=by
 induction k with
 | zero=>exact h
 | succ k ih=>exact (Xh (f+k)).1 _ _ ih
theorem vD {f:Nat} (k:Nat) {ts:List Tk} {r:PR (List St)} (h:zH f ts=some r):zH (f+k) ts=some r:=by
 induction k with
 | zero=>exact h
 | succ k ih=>exact (Xh (f+k)).2.1 _ _ ih
theorem zfJ {f:Nat} (k:Nat) {pre:List St} {ts:List Tk} {r:PR (List St)} (h:Zd f pre ts=some r):Zd (f+k) pre ts=some r:=by
 induction k with
 | zero=>exact h
 | succ k ih=>exact (Xh (f+k)).2.2 _ _ _ ih
theorem Vx.let {s:List UInt8} {ts us:List Tk} {e:Ex} (h:BT 1 ts (.ok (e,gT [59]::us))):Vx (XJ [108,101,116]::nmT s::gT [61]::ts) (.ok (.mk 1 s [e] [] [] 0,us)):=by
 obtain ⟨f,h⟩:=h;refine ⟨f+1,?_⟩;rw [Ze];refine (if_pos rfl).trans ?_;show zh (zf f 1 ts) (fun e us=>zh (zR [59] us) fun _ us=>some (.ok (St.mk 1 s [e] [] [] 0,us)))=_
 rw [h];simp only [zh,Z1]
theorem Vx.ret0 {us:List Tk}:Vx (XJ [114,101,116,117,114,110]::gT [59]::us) (.ok (.mk 6 [] [] [] [] 0,us)):=⟨1,by
 rw [Ze]
 exact (if_neg Bool.false_ne_true).trans ((if_neg Bool.false_ne_true).trans ((if_neg Bool.false_ne_true).trans ((if_pos rfl).trans (if_pos rfl))))⟩
theorem Vx.ret {ts us:List Tk} {e:Ex} (hn:zm (zv ts) [59]=false) (h:BT 1 ts (.ok (e,gT [59]::us))):Vx (XJ [114,101,116,117,114,110]::ts) (.ok (.mk 6 [] [e] [] [] 0,us)):=by
 obtain ⟨f,h⟩:=h;refine ⟨f+1,?_⟩;rw [Ze];refine (if_neg Bool.false_ne_true).trans ((if_neg Bool.false_ne_true).trans ((if_neg Bool.false_ne_true).trans ((if_pos rfl).trans ((if_neg ?_).trans ?_))))
 ·show ¬ zm (zv ts) [59]=true
  rw [hn];decide
 ·show zh (zf f 1 ts) (fun e us=>zh (zR [59] us) fun _ us=>some (.ok (St.mk 6 [] [e] [] [] 0,us)))=_
  rw [h];simp only [zh,Z1]
theorem Vx.while {ts us vs:List Tk} {e:Ex} {b:List St} (h:BT 1 ts (.ok (e,us))) (y:BKm us (.ok (b,vs))):Vx (XJ [119,104,105,108,101]::ts) (.ok (.mk 5 [] [e] b [] 0,vs)):=by
 obtain ⟨f,h⟩:=h;obtain ⟨o,y⟩:=y;refine ⟨f+o+1,?_⟩;rw [Ze];refine (if_neg Bool.false_ne_true).trans ((if_neg Bool.false_ne_true).trans ((if_pos rfl).trans ?_));show zh (zf (f+o) 1 ts) (fun e us=>zh (zH (f+o) us) fun b us=>some (.ok (St.mk 5 [] [e] b [] 0,us)))=_
 rw [yE o h];simp only [zh];rw [Nat.add_comm f o,vD f y]
theorem Vx.if {ts us vs:List Tk} {e:Ex} {b:List St} (h:BT 1 ts (.ok (e,us))) (y:BKm us (.ok (b,vs))) (hn:zm (zv vs) [101,108,115,101]=false):Vx (XJ [105,102]::ts) (.ok (.mk 3 [] [e] b [] 0,vs)):=by
 obtain ⟨f,h⟩:=h;obtain ⟨o,y⟩:=y;refine ⟨f+o+1,?_⟩;rw [Ze];refine (if_neg Bool.false_ne_true).trans ((if_pos rfl).trans ?_);show zh (zf (f+o) 1 ts) (fun e us=>zh (zH (f+o) us) fun b us=>if zm (zv us) [101,108,115,101]=true then zh (zH (f+o) us.tail) fun c us=>some (.ok (St.mk 4 [] [e] b c 0,us)) else some (.ok (St.mk 3 [] [e] b [] 0,us)))=_
 rw [yE o h];simp only [zh];rw [Nat.add_comm f o,vD f y];simp only;rw [if_neg (by rw [hn];decide)]
theorem Vx.ife {ts us vs ws:List Tk} {e:Ex} {b c:List St} (h:BT 1 ts (.ok (e,us))) (A:BKm us (.ok (b,XJ [101,108,115,101]::vs))) (z:BKm vs (.ok (c,ws))):Vx (XJ [105,102]::ts) (.ok (.mk 4 [] [e] b c 0,ws)):=by
 obtain ⟨f,h⟩:=h;obtain ⟨o,A⟩:=A;obtain ⟨y,z⟩:=z;refine ⟨f+o+y+1,?_⟩;rw [Ze];refine (if_neg Bool.false_ne_true).trans ((if_pos rfl).trans ?_);show zh (zf (f+o+y) 1 ts) (fun e us=>zh (zH (f+o+y) us) fun b us=>if zm (zv us) [101,108,115,101]=true then zh (zH (f+o+y) us.tail) fun c us=>some (.ok (St.mk 4 [] [e] b c 0,us)) else some (.ok (St.mk 3 [] [e] b [] 0,us)))=_
 rw [Nat.add_assoc,yE (o+y) h];simp only [zh];rw [show f+(o+y)=o+(f+y) by omega,vD (f+y) A]
 simp only;refine (if_pos rfl).trans ?_;show zh (zH (o+(f+y)) vs) (fun c us=>some (.ok (St.mk 4 [] [e] b c 0,us)))=_
 rw [show o+(f+y)=y+(f+o) by omega,vD (f+o) z]
 rfl
def hdS (t:Tk):Prop:=zm t [108,101,116]=false∧zm t [105,102]=false∧zm t [119,104,105,108,101]=false∧zm t [114,101,116,117,114,110]=false∧t.line=0
theorem zfK {t:Tk} (h:Hk t=true):hdS t:=⟨vY h rfl,vY h rfl,vY h rfl,vY h rfl,zg0 h⟩
theorem Vx.set {ts us vs:List Tk} {e e2:Ex} (hh:hdS (zv ts)) (h:BT 1 ts (.ok (e,gT [61]::us))) (hp:yX e=true) (y:BT 1 us (.ok (e2,gT [59]::vs))):Vx ts (.ok (.mk 2 [] [e,e2] [] [] 0,vs)):=by
 obtain ⟨f,h⟩:=h;obtain ⟨o,y⟩:=y;obtain ⟨G,z,H,D,A⟩:=hh;refine ⟨f+o+1,?_⟩;rw [Ze,if_neg (by rw [G];decide),if_neg (by rw [z];decide),if_neg (by rw [H];decide),if_neg (by rw [D];decide),yE o h]
 simp only [zh];refine (if_pos rfl).trans ((if_pos hp).trans ?_);show zh (zf (f+o) 1 us) (fun e2 us=>zh (zR [59] us) fun _ us=>some (.ok (St.mk 2 [] [e,e2] [] [] (zv ts).line,us)))=_
 rw [Nat.add_comm f o,yE f y];simp only [zh,Z1,A]
theorem Vx.do {ts us:List Tk} {e:Ex} (hh:hdS (zv ts)) (h:BT 1 ts (.ok (e,gT [59]::us))):Vx ts (.ok (.mk 7 [] [e] [] [] 0,us)):=by
 obtain ⟨f,h⟩:=h;obtain ⟨y,o,z,D,A⟩:=hh;refine ⟨f+1,?_⟩;rw [Ze,if_neg (by rw [y];decide),if_neg (by rw [o];decide),if_neg (by rw [z];decide),if_neg (by rw [D];decide),h]
 simp only [zh];refine (if_neg Bool.false_ne_true).trans ?_;simp only [Z1,A]
theorem SSm.stop {pre:List St} {us:List Tk}:SSm pre (gT [125]::us) (.ok (pre,us)):=⟨1,by rw [Zd];exact if_pos rfl⟩
theorem SSm.more {pre:List St} {ts us:List Tk} {x:St} {r:PR (List St)} (hn:zm (zv ts) [125]=false) (h:Vx ts (.ok (x,us))) (y:SSm (pre++[x]) us r):SSm pre ts r:=by
 obtain ⟨f,h⟩:=h;obtain ⟨o,y⟩:=y;refine ⟨f+o+1,?_⟩;rw [Zd,if_neg (by rw [hn];decide),zg6 o h]
 simp only [zh];rw [Nat.add_comm f o];exact zfJ f y
theorem BKm.of {ts:List Tk} {r:PR (List St)} (h:SSm [] ts r):BKm (gT [123]::ts) r:=by
 obtain ⟨f,h⟩:=h;refine ⟨f+1,?_⟩;rw [zH,Z1];exact h
structure RdS (x:Sz):Prop where
 rd:∀rest,zm (zv rest) [101,108,115,101]=false→Vx (ktS x++rest) (.ok (zzS x,rest))
 hd:∃t us,ktS x=t::us∧zm t [125]=false∧zm t [101,108,115,101]=false
theorem U5:∀(l:List Sz) (pre:List St) (rest:List Tk),(∀x∈l,RdS x)→SSm pre (YE l++(gT [125]::rest)) (.ok (pre++zzC l,rest))
 | [],pre,rest,_=>by
  show SSm pre (gT [125]::rest) (.ok (pre++[],rest))
  rw [List.append_nil];exact SSm.stop
 | x::xs,pre,rest,h=>by
  have A:=h x (List.mem_cons_self ..);have H:=U5 xs (pre++[zzS x]) rest fun y hy=>h y (List.mem_cons_of_mem _ hy)
  have G:YE (x::xs)++(gT [125]::rest)=ktS x++(YE xs++(gT [125]::rest)):=by rw [YE,List.append_assoc]
  have J:pre++zzC (x::xs)=pre++[zzS x]++zzC xs:=by rw [zzC];simp
  rw [G,J];obtain ⟨t,I,o,D,z⟩:=A.hd;refine SSm.more (by rw [o];exact D) (A.rd _ ?_) H
  cases xs with
  | nil=>rfl
  | cons y ys =>
   obtain ⟨t,I,o,D,z⟩:=(h y (List.mem_cons_of_mem _ (List.mem_cons_self ..))).hd;rw [YE,o];exact z
theorem xF {l:List Sz} (h:∀x∈l,RdS x) (rest:List Tk):BKm (gT [123]::(YE l++(gT [125]::rest))) (.ok (zzC l,rest)):=BKm.of (U5 l [] rest h)
theorem VX {l:List (Option (List UInt8))}:∀{i:Nat} {v:List UInt8},yL l i=some v→∀j,j<i→∃t,(l[j]?).getD none=some t
 | 0,_,_,_,h=>by omega
 | i+1,v,h,j,hj=>by
  unfold yL at h
  obtain ⟨a,b,y,o,-⟩:=zn h
  by_cases hji:j=i
  ·subst hji;exact ⟨b,o⟩
  ·exact VX y j (by omega)
theorem zdd {l:List Sz} {d:Nat} {v:List UInt8} (h:blkO (prS d) l=some v) (x:Sz) (hx:x∈l):∃t,prS d x=some t:=by
 obtain ⟨w,z,-⟩:=zbm h;obtain ⟨j,y,rfl⟩:=List.getElem_of_mem hx;obtain ⟨t,o⟩:=VX z j y;rw [List.getElem?_map,List.getElem?_eq_getElem y] at o;exact ⟨t,o⟩
theorem zfL {d:Nat} {a:Ez} {u:List UInt8} (hu:prE d a=some u) (h:x9 a=true):yX (V0 a)=true:=by
 obtain ⟨k,s,n,kids,line⟩:=a
 have o:k=4∨k=8∨k=9:=by
  unfold x9 VJ at h
  simp at h
  omega
 rcases o with rfl | rfl | rfl <;> (rw [V0];rfl)
theorem zfM:∀(d:Nat) (x:Sz) (t:List UInt8),prS d x=some t→RdS x
 | 0,x,t,h=>by rw [prS] at h;cases h
 | d+1,.mk k s es body els line,t,h=>by
  have A:∀{b:List UInt8} {l:List Sz},blkO (prS d) l=some b→∀x∈l,RdS x:=fun J x hx=>by
   obtain ⟨t,V⟩:=zdd J x hx;exact zfM d x t V
  have O:ktS (.mk k s es body els line)=uN k s (es.map Yc) (YE body) (YE els):=by rw [ktS]
  have R:zzS (.mk k s es body els line)=.mk k.toNat s (es.map V0) (zzC body) (zzC els) 0:=by rw [zzS]
  have o:∀us,uu (gT [59]::us)∧ut (gT [59]::us)=0:=fun us=>⟨XK (by decide) (by decide) (by decide),by rw [xh];decide⟩
  have H:∀us,uu (gT [61]::us)∧ut (gT [61]::us)=0:=fun us=>⟨XK (by decide) (by decide) (by decide),by rw [xh];decide⟩
  have z:∀us,uu (gT [123]::us)∧ut (gT [123]::us)=0:=fun us=>⟨XK (by decide) (by decide) (by decide),by rw [xh];decide⟩
  have go:∀(K:List Tk),uN k s (es.map Yc) (YE body) (YE els)=K→(∀rest,zm (zv rest) [101,108,115,101]=false→Vx (K++rest) (.ok (.mk k.toNat s (es.map V0) (zzC body) (zzC els) 0,rest)))→(∃t us,K=t::us∧zm t [125]=false∧zm t [101,108,115,101]=false)→RdS (.mk k s es body els line):=fun K e h1 h2=>⟨by rw [O,R,e];exact h1,by rw [O,e];exact h2⟩
  rcases zdb h with ⟨rfl,rfl,rfl,a,u,v,rfl,y,N,-⟩ | ⟨rfl,rfl,rfl,rfl,a,b,u,v,rfl,Q,y,N,-⟩ | ⟨rfl,rfl,rfl,rfl,rfl,-⟩ | ⟨rfl,rfl,rfl,rfl,a,u,rfl,y,-⟩ | ⟨rfl,rfl,rfl,rfl,a,u,rfl,y,-⟩ | ⟨rfl,rfl,a,u,b,c,rfl,y,J,T,-⟩ | ⟨U,rfl,rfl,a,u,b,rfl,y,J,-⟩
  ·refine go _ rfl (fun rest _=>?_) ⟨_,_,rfl,rfl,rfl⟩
   show Vx (XJ [108,101,116]::nmT s::gT [61]::(Yc a++[gT [59]]++rest)) _
   rw [YC];exact Vx.let ((Y2 d a v N).full (o _).1 (o _).2)
  ·obtain ⟨L,D,I,G⟩:=(Y2 d a u y).hd
   refine go _ rfl (fun rest _=>?_) ⟨L,D++(gT [61]::(Yc b++[gT [59]])),?_,vY G rfl,vY G rfl⟩
   ·show Vx ((Yc a++(gT [61]::(Yc b++[gT [59]])))++rest) _
    rw [List.append_assoc,List.cons_append,YC];exact Vx.set (by rw [I];exact zfK G) ((Y2 d a u y).full (H _).1 (H _).2) (zfL y Q) ((Y2 d b v N).full (o _).1 (o _).2)
   ·show Yc a++(gT [61]::(Yc b++[gT [59]]))=_
    rw [I,List.cons_append]
  ·exact go _ rfl (fun rest _=>Vx.ret0) ⟨_,_,rfl,rfl,rfl⟩
  ·obtain ⟨L,D,I,G⟩:=(Y2 d a u y).hd
   refine go _ rfl (fun rest _=>?_) ⟨_,_,rfl,rfl,rfl⟩
   show Vx (XJ [114,101,116,117,114,110]::(Yc a++[gT [59]]++rest)) _
   rw [YC];exact Vx.ret (by rw [I];exact vY G rfl) ((Y2 d a u y).full (o _).1 (o _).2)
  ·obtain ⟨L,D,I,G⟩:=(Y2 d a u y).hd
   refine go _ rfl (fun rest _=>?_) ⟨L,D++[gT [59]],?_,vY G rfl,vY G rfl⟩
   ·show Vx (Yc a++[gT [59]]++rest) _
    rw [YC];exact Vx.do (by rw [I];exact zfK G) ((Y2 d a u y).full (o _).1 (o _).2)
   ·show Yc a++[gT [59]]=_
    rw [I,List.cons_append]
  ·refine go _ rfl (fun rest _=>?_) ⟨_,_,rfl,rfl,rfl⟩
   have e:uN 4 [] ([a].map Yc) (YE body) (YE els)++rest=XJ [105,102]::(Yc a++(gT [123]::(YE body++(gT [125]::XJ [101,108,115,101]::gT [123]::(YE els++(gT [125]::rest)))))):=by
    show (XJ [105,102]::(Yc a++(gT [123]::(YE body++(gT [125]::XJ [101,108,115,101]::gT [123]::(YE els++[gT [125]]))))))++rest=_
    simp
   rw [e];exact Vx.ife ((Y2 d a u y).full (z _).1 (z _).2) (xF (A J) _) (xF (A T) rest)
  ·rcases U with rfl | rfl
   ·refine go _ rfl (fun rest hn=>?_) ⟨_,_,rfl,rfl,rfl⟩
    have e:uN 3 [] ([a].map Yc) (YE body) (YE [])++rest=XJ [105,102]::(Yc a++(gT [123]::(YE body++(gT [125]::rest)))):=by
     show (XJ [105,102]::(Yc a++(gT [123]::(YE body++[gT [125]]))))++rest=_
     simp
    rw [e];exact Vx.if ((Y2 d a u y).full (z _).1 (z _).2) (xF (A J) _) hn
   ·refine go _ rfl (fun rest _=>?_) ⟨_,_,rfl,rfl,rfl⟩
    have e:uN 5 [] ([a].map Yc) (YE body) (YE [])++rest=XJ [119,104,105,108,101]::(Yc a++(gT [123]::(YE body++(gT [125]::rest)))):=by
     show (XJ [119,104,105,108,101]::(Yc a++(gT [123]::(YE body++[gT [125]]))))++rest=_
     simp
    rw [e];exact Vx.while ((Y2 d a u y).full (z _).1 (z _).2) (xF (A J) _)
theorem zfN {l:List UInt8} (h:xx l=true):l=91::(Yq l++[93]):=by
 have A:=YL h
 unfold xx Lib.hasPrefix Lib.hasSuffix at h
 rw [Bool.and_eq_true] at h;obtain ⟨y,z⟩:=h;obtain ⟨a,rfl⟩:=List.isPrefixOf_iff_prefix.1 y;obtain ⟨b,o⟩:=List.isSuffixOf_iff_suffix.1 z;cases b with
 | nil=>simp at o
 | cons c b =>
  simp only [List.cons_append,List.nil_append,List.cons.injEq] at o;obtain ⟨rfl,rfl⟩:=o
  unfold Yq
  simp
def brT (s:List UInt8):Nat:=(s.length-(ZF s).length) / 2
theorem XL:∀(n:Nat) (s:List UInt8),s.length≤n→s=List.replicate (brT s) 91++(ZF s++List.replicate (brT s) 93)
 | 0,s,h=>by
  obtain rfl:=List.eq_nil_of_length_eq_zero (Nat.le_zero.1 h)
  rfl
 | n+1,s,h=>by
  by_cases hp:xx s=true
  ·have o:=Vl hp
   have G:=Xi s (YL hp);have D:=XL n (Yq s) (by omega)
   have A:(ZF (Yq s)).length≤(Yq s).length:=qY _ _;have y:brT s=brT (Yq s)+1:=by unfold brT;rw [o];omega
   have z:=zfN hp;rw [y,o,List.replicate_succ,List.replicate_succ',List.cons_append];rw [←List.append_assoc (ZF _),←List.append_assoc (List.replicate _ _),←D];exact z
  ·have o:=XD (Bool.eq_false_iff.2 hp)
   have y:brT s=0:=by unfold brT;rw [o];omega
   rw [y,o]
   simp
theorem zeb (m:Nat) (n s:List UInt8) (hs:s=List.replicate m 91++(n++List.replicate m 93)):s.take m++(n++s.drop (s.length-m))=s:=by
 have o:s.take m=List.replicate m 91:=by rw [hs];exact List.take_left' (by simp)
 have h:s.length-m=(List.replicate m (91:UInt8)++n).length:=by rw [hs];simp only [List.length_append,List.length_replicate];omega
 have y:s.drop (s.length-m)=List.replicate m 93:=by
  rw [h];generalize hL:(List.replicate m (91:UInt8)++n).length=L;rw [hs,←List.append_assoc];exact List.drop_left' hL
 rw [o,y];exact hs.symm
theorem zec {s t:List UInt8} (h:typeO s=some t):tokO 1 0 (ZF s)=some (ZF s)∧t=s:=by
 unfold typeO at h
 obtain ⟨a,b,z,A,rfl⟩:=zn h;obtain ⟨c,e,y,D,rfl⟩:=zn A;obtain ⟨G,o⟩:=Xp y (by decide)
 have o:c=ZF s:=o;subst o;refine ⟨y,?_⟩;obtain rfl:=Option.some.inj z;obtain rfl:=Option.some.inj D;exact zeb (brT s) (ZF s) s (XL s.length s (Nat.le_refl _))
def ktT (s:List UInt8):List Tk:=List.replicate (brT s) (gT [91])++(nmT (ZF s)::List.replicate (brT s) (gT [93]))
def qj (p:List UInt8 × List UInt8):List Tk:=nmT p.1::gT [58]::ktT p.2
theorem zab {Q:UInt8→Prop} {b:List UInt8} {B:List Tk} (h:Lx Q b B) (hd:Hd Sg b):∀m,Lx Q (List.replicate m 91++b) (List.replicate m (gT [91])++B)∧Hd Sg (List.replicate m 91++b)
 | 0=>⟨h,hd⟩
 | m+1=>⟨Lx.one 91 (by decide) (zab h hd m).1 (zab h hd m).2,91,_,rfl,by decide⟩
theorem zbn:∀m,Lx Sg (List.replicate (m+1) 93) (List.replicate (m+1) (gT [93]))
 | 0=>Lx.sign (s:=[93]) (by decide)
 | m+1=>Lx.one 93 (by decide) (zbn m) ⟨93,_,rfl,by decide⟩
theorem zbo {s t:List UInt8} (h:typeO s=some t):Q8 t (ktT s):=by
 obtain ⟨G,rfl⟩:=zec h;obtain ⟨o,D⟩:=Lx.name G
 have A:Lx Sp (ZF t++List.replicate (brT t) 93) (nmT (ZF t)::List.replicate (brT t) (gT [93])):=by
  cases brT t with
  | zero =>
   rw [List.replicate_zero,List.append_nil];exact o.mono fun _=>zbk
  | succ m=>exact o.app ((zbn m).mono fun _=>zc9) ⟨93,_,rfl,by decide⟩
 obtain ⟨y,z⟩:=zab A (D.app _) (brT t);rw [←XL t.length t (Nat.le_refl _)] at y z;exact ⟨y,z⟩
theorem zg7 {p:List UInt8 × List UInt8} {t:List UInt8} (h:parO p=some t):Q8 t (qj p):=by
 unfold parO at h
 obtain ⟨a,b,z,G,rfl⟩:=zn h;obtain ⟨c,e,o,H,rfl⟩:=zn G;obtain rfl:=Option.some.inj o;obtain ⟨A,y⟩:=Lx.name z;have D:=zbo H;exact ⟨A.app (Lx.one 58 (by decide) (Lx.bl (c:=32) (by decide) D.lx) ⟨32,_,rfl,by decide⟩) ⟨58,_,rfl,by decide⟩,y.app _⟩
theorem U6:∀(k:Nat) (rest:List Tk),ZS k (List.replicate k (gT [93])++rest)=.ok rest
 | 0,_=>rfl
 | k+1,rest=>by
  rw [List.replicate_succ,List.cons_append,ZS];exact (if_pos rfl).trans (U6 k rest)
theorem U7 (n:List UInt8) (rest:List Tk):∀(m k:Nat),ZB k (List.replicate m (gT [91])++(nmT n::(List.replicate (k+m) (gT [93])++rest)))=.ok (List.replicate (k+m) 91++n++List.replicate (k+m) 93,rest)
 | 0,k=>by
  show ZB k (nmT n::(List.replicate k (gT [93])++rest))=_
  rw [ZB];refine (if_neg Bool.false_ne_true).trans ((if_pos rfl).trans ?_);rw [U6]
  rfl
 | m+1,k=>by
  have h:=U7 n rest m (k+1);rw [show k+1+m=k+(m+1) by omega] at h
  rw [List.replicate_succ,List.cons_append,ZB];exact (if_pos rfl).trans h
theorem Qq (s:List UInt8) (rest:List Tk):ZB 0 (ktT s++rest)=.ok (s,rest):=by
 have h:=U7 (ZF s) rest (brT s) 0;rw [Nat.zero_add] at h
 unfold ktT
 rw [List.append_assoc,List.cons_append,h,List.append_assoc,←XL s.length s (Nat.le_refl _)]
theorem zbp (p:List UInt8 × List UInt8) (rest:List Tk):Z8 (qj p++rest)=.ok (p,rest):=by
 unfold Z8
 refine (if_pos rfl).trans ((if_pos rfl).trans ?_);rw [show (qj p++rest).tail.tail=ktT p.2++rest from rfl,Qq]
 rfl
def PMm (pre:List Pm) (ts:List Tk) (r:PR (List Pm)):Prop:=∃f,zN f pre ts=some r
theorem uv:∀(l:List Pm) (pre:List Pm) (rest:List Tk),l≠[]→zm (zv rest) [44]=false→PMm pre (yM (l.map qj)++rest) (.ok (pre++l,rest))
 | [],_,_,h,_=>absurd rfl h
 | [x],pre,rest,_,hc=>by
  refine ⟨1,?_⟩;show zN 1 pre (qj x++[]++rest)=_
  rw [List.append_nil,zN,zbp];simp only;rw [if_neg (by rw [hc];decide)]
 | x::y::xs,pre,rest,_,hc=>by
  obtain ⟨f,o⟩:=uv (y::xs) (pre++[x]) rest (by simp) hc
  refine ⟨f+1,?_⟩;have z:yM ((x::y::xs).map qj)++rest=qj x++(gT [44]::(yM ((y::xs).map qj)++rest)):=by simp [yM,vC]
  rw [z,zN,zbp];simp only;refine (if_pos rfl).trans ?_;show zN f (pre++[x]) (yM ((y::xs).map qj)++rest)=_
  rw [o]
  simp
end Go.Proofs.YtpejpbbdgblbeaaGreatDoor
