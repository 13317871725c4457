import Derived.Test.YtmbofhpmockmbaaGreatDoorXIter
namespace Go.Proofs.YtmbofhpmockmbaaGreatDoor
open Go.RowKit
def Z9 (l:List UInt8):Nat→Nat→List Tk→Nat→Nat→Prop
 | line0,a0,[],line,a=>line=line0∧a=a0
 | line0,a0,t::ts,line,a=>(zt l a0).e=0∧t=tkT l line0 a0∧Z9 l (Zx l line0 a0) (zD l a0+(zt l a0).sz) ts line a
theorem Yh {l:List UInt8} {line a:Nat} (he:(zt l a).e=0):∀{ts:List Tk} {line0 a0:Nat},Z9 l line0 a0 ts line a →
  Z9 l line0 a0 (ts++[tkT l line a]) (Zx l line a) (zD l a+(zt l a).sz)
 | [],line0,a0,⟨h1,h2⟩=>by subst h1;subst h2;exact ⟨he,rfl,rfl,rfl⟩
 | t::ts,line0,a0,⟨h1,h2,h3⟩=>⟨h1,h2,Yh he h3⟩
theorem Yi {l:List UInt8} {t:Tk} {line a:Nat}:∀{ts:List Tk} {line0 a0:Nat},Z9 l line0 a0 (ts++[t]) line a →
  ∃o y,Z9 l line0 a0 ts o y∧(zt l y).e=0∧t=tkT l o y
 | [],line0,a0,h=>⟨line0,a0,⟨rfl,rfl⟩,h.1,h.2.1⟩
 | _::ts,line0,a0,h=>by
  obtain ⟨o,y,D,A,z⟩:=Yi (ts:=ts) h.2.2;exact ⟨o,y,⟨h.1,h.2.1,D⟩,A,z⟩
def Zi (l:List UInt8):Nat→Nat→Nat→List Tk × Nat × Nat
 | 0,_,_=>([],0,0)
 | f+1,line,a =>
  if (zt l a).e≠0 then ([],zD l a,(zt l a).e) else if (zt l a).k=0 then ([tkT l line a],0,0)
  else if (Zi l f (Zx l line a) (zD l a+(zt l a).sz)).2.2≠0 then ([],(Zi l f (Zx l line a) (zD l a+(zt l a).sz)).2.1,(Zi l f (Zx l line a) (zD l a+(zt l a).sz)).2.2)
  else (tkT l line a::(Zi l f (Zx l line a) (zD l a+(zt l a).sz)).1,0,0)
def zJ (l:List UInt8):List Tk × Nat × Nat:=if 4096<l.length then ([],0,5) else Zi l (l.length+1) 1 0
theorem yp {l:List UInt8} {a:Nat} (ha:a≤l.length) (he:(zt l a).e=0) (hk:(zt l a).k≠0):a<zD l a+(zt l a).sz∧zD l a+(zt l a).sz≤l.length:=by
 have y:=xx ha;have o:=vK (l.drop (a+ZR (l.drop a))) he;have A:=o.2.1 hk;have z:=o.1;rw [List.length_drop] at z
 unfold zD at y ⊢
 unfold zt
 omega
theorem xy {l:List UInt8} {line a:Nat} (he:(zt l a).e≠0):∀(ts:List Tk) (line0 a0 f:Nat),Z9 l line0 a0 ts line a→(∀t∈ts,t.k≠0)→a0≤l.length→l.length<a0+f →
  Zi l f line0 a0=([],zD l a,(zt l a).e)
 | [],line0,a0,f,⟨h1,h2⟩,_,ha,hf=>by
  subst h1;subst h2;obtain ⟨f,rfl⟩:∃g,f=g+1:=⟨f-1,by omega⟩
  unfold Zi;rw [if_pos he]
 | t::ts,line0,a0,f,⟨h1,h2,h3⟩,hk,ha,hf=>by
  obtain ⟨f,rfl⟩:∃g,f=g+1:=⟨f-1,by omega⟩
  have o:(zt l a0).k≠0:=by have:=hk t (List.mem_cons_self ..);rw [h2] at this;exact this
  have y:=yp ha h1 o;have z:=xy he ts _ _ f h3 (fun t ht=>hk t (List.mem_cons_of_mem _ ht)) y.2 (by omega)
  unfold Zi
  rw [if_neg (by simp [h1]),if_neg o,z,if_pos he]
theorem xz {l:List UInt8} {line a:Nat} (he:(zt l a).e=0) (hz:(zt l a).k=0):∀(ts:List Tk) (line0 a0 f:Nat),Z9 l line0 a0 ts line a→(∀t∈ts,t.k≠0)→a0≤l.length→l.length<a0+f →
  Zi l f line0 a0=(ts++[tkT l line a],0,0)
 | [],line0,a0,f,⟨h1,h2⟩,_,ha,hf=>by
  subst h1;subst h2;obtain ⟨f,rfl⟩:∃g,f=g+1:=⟨f-1,by omega⟩
  unfold Zi;rw [if_neg (by simp [he]),if_pos hz];rfl
 | t::ts,line0,a0,f,⟨h1,h2,h3⟩,hk,ha,hf=>by
  obtain ⟨f,rfl⟩:∃g,f=g+1:=⟨f-1,by omega⟩
  have o:(zt l a0).k≠0:=by have:=hk t (List.mem_cons_self ..);rw [h2] at this;exact this
  have y:=yp ha h1 o;have z:=xz he hz ts _ _ f h3 (fun t ht=>hk t (List.mem_cons_of_mem _ ht)) y.2 (by omega)
  unfold Zi
  rw [if_neg (by simp [h1]),if_neg o,z,if_neg (by simp),h2]
  rfl
theorem yQ {l:List UInt8} {line a:Nat}:∀(ts:List Tk) (line0 a0:Nat),Z9 l line0 a0 ts line a→(∀t∈ts,t.k≠0)→a0≤l.length→line0≤a0+1→a0+ts.length≤a∧a≤l.length∧line≤a+1
 | [],line0,a0,⟨h1,o⟩,_,ha,hl=>by subst h1;subst o;exact ⟨by simp,ha,hl⟩
 | t::ts,line0,a0,⟨h1,o,h3⟩,hk,ha,hl=>by
  have y:(zt l a0).k≠0:=by have:=hk t (List.mem_cons_self ..);rw [o] at this;exact this
  have z:=yp ha h1 y
  have A:Zx l line0 a0≤zD l a0+1:=by
   unfold Zx zD
   have:=Xz ((l.drop a0).take (ZR (l.drop a0))) 10
   have o:((l.drop a0).take (ZR (l.drop a0))).length≤ZR (l.drop a0):=List.length_take_le ..;omega
  have:=yQ ts _ _ h3 (fun t ht=>hk t (List.mem_cons_of_mem _ ht)) z.2 (by omega)
  rw [List.length_cons];omega
def zQ (ts:List Tk):List Value:=ts.flatMap fun t=>[.int .i64 t.k,.string (za t.s),.int .i64 t.n,.int .i64 t.line,.int .i64 t.at0]
theorem YJ (a b:List Tk):zQ (a++b)=zQ a++zQ b:=by unfold zQ;rw [List.flatMap_append]
theorem vL:∀(f:Nat) (meant:List UInt8) (at0:Nat) (r:List UInt8),meant.length≤255→(z7 f meant at0 r).s.length≤255
 | 0,_,_,_,_=>by simp [z7]
 | _+1,_,_,[],_=>by simp [z7]
 | f+1,meant,at0,x::r,h=>by
  unfold z7
  split
  ·exact h
  ·split
   ·simp
   ·split
    ·simp
    ·rename_i o
     exact vL f _ _ _ (by rw [List.length_append];simp;omega)
theorem u9 (l:List UInt8):(Zw l).s.length≤l.length+255:=by
 cases l with
 | nil=>simp [Zw]
 | cons x r =>
  unfold Zw
  simp only
  split
  ·have:=YH (x::r)
   unfold ye
   split
   ·exact Nat.le_trans this (by omega)
   ·split
    ·simp
    ·exact Nat.le_trans this (by omega)
  ·split
   ·unfold YI;split <;> exact Nat.zero_le _
   ·split
    ·have o:(Z1 (x::r)).s.length≤255:=vL (x::r).length [] 1 ((x::r).drop 1) (Nat.zero_le _)
     exact Nat.le_trans o (Nat.le_add_left 255 _)
    ·unfold yE
     have o:=xu (x::r) 25;generalize bestS (x::r) 25=bb at o ⊢
     split
     ·exact Nat.zero_le _
     ·have y:2≤(x::r).length+255:=Nat.le_trans (by decide) (Nat.le_add_left 255 _)
      exact Nat.le_trans o y
def ub:Nat→List UInt8→Nat
 | 0,_=>0
 | f+1,l=>if YG (l.drop (zZ zw l))=true then
   zZ zw l+(zZ zY (l.drop (zZ zw l))+ub f ((l.drop (zZ zw l)).drop (zZ zY (l.drop (zZ zw l)))))
  else zZ zw l
theorem vM:∀(f:Nat) (l:List UInt8),l.length<f→ZR l=ub f l
 | 0,l,h=>by omega
 | f+1,l,h=>by
  rw [ZR,ub]
  by_cases hr:YG (l.drop (zZ zw l))=true
  ·rw [dif_pos hr,if_pos hr,vM f _ (by
    have:=yD hr
    have o:=Z6 zY (l.drop (zZ zw l));simp only [List.length_drop] at *
    omega)]
  ·rw [dif_neg hr,if_neg hr]
theorem uc:ZR=fun l=>ub (l.length+1) l:=funext fun l=>vM _ l (Nat.lt_succ_self _)
def yL (g:List UInt8→Nat) (l:List UInt8) (a:Nat):TR:=Zw (l.drop (a+g (l.drop a)))
def XA (g:List UInt8→Nat) (l:List UInt8) (line a:Nat):Nat:=line+Lib.countByte ((l.drop a).take (g (l.drop a))) 10
def y4 (g:List UInt8→Nat) (l:List UInt8) (a:Nat):Nat:=a+g (l.drop a)
def tkG (g:List UInt8→Nat) (l:List UInt8) (line a:Nat):Tk:=⟨(yL g l a).k,(yL g l a).s,(yL g l a).n,XA g l line a,y4 g l a⟩
def YK (g:List UInt8→Nat) (l:List UInt8):Nat→Nat→Nat→List Tk × Nat × Nat
 | 0,_,_=>([],0,0)
 | f+1,line,a =>
  if (yL g l a).e≠0 then ([],y4 g l a,(yL g l a).e) else if (yL g l a).k=0 then ([tkG g l line a],0,0)
  else if (YK g l f (XA g l line a) (y4 g l a+(yL g l a).sz)).2.2≠0 then ([],(YK g l f (XA g l line a) (y4 g l a+(yL g l a).sz)).2.1,(YK g l f (XA g l line a) (y4 g l a+(yL g l a).sz)).2.2)
  else (tkG g l line a::(YK g l f (XA g l line a) (y4 g l a+(yL g l a).sz)).1,0,0)
theorem vN (l:List UInt8):∀(f line a:Nat),Zi l f line a=YK ZR l f line a
 | 0,_,_=>rfl
 | f+1,line,a=>by
  unfold Zi YK
  rw [vN l f]
  rfl
def yM (l:List UInt8):List Tk × Nat × Nat:=YK (fun l=>ub (l.length+1) l) l (l.length+1) 1 0
theorem vO {l:List UInt8} (h:l.length≤4096):zJ l=yM l:=by
 unfold zJ yM
 rw [if_neg (by omega),vN,uc]
end Go.Proofs.YtmbofhpmockmbaaGreatDoor
