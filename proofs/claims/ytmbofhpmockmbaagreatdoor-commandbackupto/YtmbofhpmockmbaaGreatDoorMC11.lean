import Derived.Test.YtmbofhpmockmbaaGreatDoorXIter
namespace Go.Proofs.YtmbofhpmockmbaaGreatDoor
open Go.RowKit
def ZX (l:List UInt8):Nat→Nat→List Tk→Nat→Nat→Prop
 | line0,a0,[],line,a=>line=line0∧a=a0
 | line0,a0,t::ts,line,a=>(zs l a0).e=0∧t=tkT l line0 a0∧ZX l (Zo l line0 a0) (zC l a0+(zs l a0).sz) ts line a
theorem yW {l:List UInt8} {line a:Nat} (he:(zs l a).e=0):∀{ts:List Tk} {line0 a0:Nat},ZX l line0 a0 ts line a →
  ZX l line0 a0 (ts++[tkT l line a]) (Zo l line a) (zC l a+(zs l a).sz)
 | [],line0,a0,⟨h1,h2⟩=>by subst h1;subst h2;exact ⟨he,rfl,rfl,rfl⟩
 | t::ts,line0,a0,⟨h1,h2,h3⟩=>⟨h1,h2,yW he h3⟩
theorem yX {l:List UInt8} {t:Tk} {line a:Nat}:∀{ts:List Tk} {line0 a0:Nat},ZX l line0 a0 (ts++[t]) line a →
  ∃o x,ZX l line0 a0 ts o x∧(zs l x).e=0∧t=tkT l o x
 | [],line0,a0,h=>⟨line0,a0,⟨rfl,rfl⟩,h.1,h.2.1⟩
 | _::ts,line0,a0,h=>by
  obtain ⟨o,x,A,y,z⟩:=yX (ts:=ts) h.2.2;exact ⟨o,x,⟨h.1,h.2.1,A⟩,y,z⟩
def Zd (l:List UInt8):Nat→Nat→Nat→List Tk × Nat × Nat
 | 0,_,_=>([],0,0)
 | f+1,line,a =>
  if (zs l a).e≠0 then ([],zC l a,(zs l a).e) else if (zs l a).k=0 then ([tkT l line a],0,0)
  else if (Zd l f (Zo l line a) (zC l a+(zs l a).sz)).2.2≠0 then ([],(Zd l f (Zo l line a) (zC l a+(zs l a).sz)).2.1,(Zd l f (Zo l line a) (zC l a+(zs l a).sz)).2.2)
  else (tkT l line a::(Zd l f (Zo l line a) (zC l a+(zs l a).sz)).1,0,0)
def zJ (l:List UInt8):List Tk × Nat × Nat:=if 4096<l.length then ([],0,5) else Zd l (l.length+1) 1 0
theorem Z8 {l:List UInt8} {a:Nat} (ha:a≤l.length) (he:(zs l a).e=0) (hk:(zs l a).k≠0):a<zC l a+(zs l a).sz∧zC l a+(zs l a).sz≤l.length:=by
 have x:=YV ha;have h:=XR (l.drop (a+ZF (l.drop a))) he;have y:=h.2.1 hk;have o:=h.1;rw [List.length_drop] at o
 unfold zC at x ⊢
 unfold zs
 omega
theorem YW {l:List UInt8} {line a:Nat} (he:(zs l a).e≠0):∀(ts:List Tk) (line0 a0 f:Nat),ZX l line0 a0 ts line a→(∀t∈ts,t.k≠0)→a0≤l.length→l.length<a0+f →
  Zd l f line0 a0=([],zC l a,(zs l a).e)
 | [],line0,a0,f,⟨h1,h2⟩,_,ha,hf=>by
  subst h1;subst h2;obtain ⟨f,rfl⟩:∃g,f=g+1:=⟨f-1,by omega⟩
  unfold Zd;rw [if_pos he]
 | t::ts,line0,a0,f,⟨h1,h2,h3⟩,hk,ha,hf=>by
  obtain ⟨f,rfl⟩:∃g,f=g+1:=⟨f-1,by omega⟩
  have h:(zs l a0).k≠0:=by have:=hk t (List.mem_cons_self ..);rw [h2] at this;exact this
  have x:=Z8 ha h1 h;have o:=YW he ts _ _ f h3 (fun t ht=>hk t (List.mem_cons_of_mem _ ht)) x.2 (by omega)
  unfold Zd
  rw [if_neg (by simp [h1]),if_neg h,o,if_pos he]
theorem YX {l:List UInt8} {line a:Nat} (he:(zs l a).e=0) (hz:(zs l a).k=0):∀(ts:List Tk) (line0 a0 f:Nat),ZX l line0 a0 ts line a→(∀t∈ts,t.k≠0)→a0≤l.length→l.length<a0+f →
  Zd l f line0 a0=(ts++[tkT l line a],0,0)
 | [],line0,a0,f,⟨h1,h2⟩,_,ha,hf=>by
  subst h1;subst h2;obtain ⟨f,rfl⟩:∃g,f=g+1:=⟨f-1,by omega⟩
  unfold Zd;rw [if_neg (by simp [he]),if_pos hz];rfl
 | t::ts,line0,a0,f,⟨h1,h2,h3⟩,hk,ha,hf=>by
  obtain ⟨f,rfl⟩:∃g,f=g+1:=⟨f-1,by omega⟩
  have h:(zs l a0).k≠0:=by have:=hk t (List.mem_cons_self ..);rw [h2] at this;exact this
  have x:=Z8 ha h1 h;have o:=YX he hz ts _ _ f h3 (fun t ht=>hk t (List.mem_cons_of_mem _ ht)) x.2 (by omega)
  unfold Zd
  rw [if_neg (by simp [h1]),if_neg h,o,if_neg (by simp),h2]
  rfl
theorem yz {l:List UInt8} {line a:Nat}:∀(ts:List Tk) (line0 a0:Nat),ZX l line0 a0 ts line a→(∀t∈ts,t.k≠0)→a0≤l.length→line0≤a0+1→a0+ts.length≤a∧a≤l.length∧line≤a+1
 | [],line0,a0,⟨h1,e⟩,_,ha,hl=>by subst h1;subst e;exact ⟨by simp,ha,hl⟩
 | t::ts,line0,a0,⟨h1,e,h3⟩,hk,ha,hl=>by
  have h:(zs l a0).k≠0:=by have:=hk t (List.mem_cons_self ..);rw [e] at this;exact this
  have o:=Z8 ha h1 h
  have x:Zo l line0 a0≤zC l a0+1:=by
   unfold Zo zC
   have:=xL ((l.drop a0).take (ZF (l.drop a0))) 10
   have e:((l.drop a0).take (ZF (l.drop a0))).length≤ZF (l.drop a0):=List.length_take_le ..;omega
  have:=yz ts _ _ h3 (fun t ht=>hk t (List.mem_cons_of_mem _ ht)) o.2 (by omega)
  rw [List.length_cons];omega
def zO (ts:List Tk):List Value:=ts.flatMap fun t=>[.int .i64 t.k,.string (za t.s),.int .i64 t.n,.int .i64 t.line,.int .i64 t.at0]
theorem Yk (a b:List Tk):zO (a++b)=zO a++zO b:=by unfold zO;rw [List.flatMap_append]
theorem XS:∀(f:Nat) (meant:List UInt8) (at0:Nat) (r:List UInt8),meant.length≤255→(zY f meant at0 r).s.length≤255
 | 0,_,_,_,_=>by simp [zY]
 | _+1,_,_,[],_=>by simp [zY]
 | f+1,meant,at0,x::r,h=>by
  unfold zY
  split
  ·exact h
  ·split
   ·simp
   ·split
    ·simp
    ·rename_i e
     exact XS f _ _ _ (by rw [List.length_append];simp;omega)
theorem VP (l:List UInt8):(Zn l).s.length≤l.length+255:=by
 cases l with
 | nil=>simp [Zn]
 | cons x r =>
  unfold Zn
  simp only
  split
  ·have:=Yi (x::r)
   unfold Z2
   split
   ·exact Nat.le_trans this (by omega)
   ·split
    ·simp
    ·exact Nat.le_trans this (by omega)
  ·split
   ·unfold Yj;split <;> exact Nat.zero_le _
   ·split
    ·have e:(ZR (x::r)).s.length≤255:=XS (x::r).length [] 1 ((x::r).drop 1) (Nat.zero_le _)
     exact Nat.le_trans e (Nat.le_add_left 255 _)
    ·unfold yn
     have e:=YT (x::r) 25;generalize bestS (x::r) 25=bb at e ⊢
     split
     ·exact Nat.zero_le _
     ·have h:2≤(x::r).length+255:=Nat.le_trans (by decide) (Nat.le_add_left 255 _)
      exact Nat.le_trans e h
def vZ:Nat→List UInt8→Nat
 | 0,_=>0
 | f+1,l=>if Yh (l.drop (zW zv l))=true then
   zW zv l+(zW zV (l.drop (zW zv l))+vZ f ((l.drop (zW zv l)).drop (zW zV (l.drop (zW zv l)))))
  else zW zv l
theorem XT:∀(f:Nat) (l:List UInt8),l.length<f→ZF l=vZ f l
 | 0,l,h=>by omega
 | f+1,l,h=>by
  rw [ZF,vZ]
  by_cases hr:Yh (l.drop (zW zv l))=true
  ·rw [dif_pos hr,if_pos hr,XT f _ (by
    have:=ym hr
    have e:=ZU zV (l.drop (zW zv l));simp only [List.length_drop] at *
    omega)]
  ·rw [dif_neg hr,if_neg hr]
theorem v6:ZF=fun l=>vZ (l.length+1) l:=funext fun l=>XT _ l (Nat.lt_succ_self _)
def yv (g:List UInt8→Nat) (l:List UInt8) (a:Nat):TR:=Zn (l.drop (a+g (l.drop a)))
def xM (g:List UInt8→Nat) (l:List UInt8) (line a:Nat):Nat:=line+Lib.countByte ((l.drop a).take (g (l.drop a))) 10
def yN (g:List UInt8→Nat) (l:List UInt8) (a:Nat):Nat:=a+g (l.drop a)
def tkG (g:List UInt8→Nat) (l:List UInt8) (line a:Nat):Tk:=⟨(yv g l a).k,(yv g l a).s,(yv g l a).n,xM g l line a,yN g l a⟩
def Yl (g:List UInt8→Nat) (l:List UInt8):Nat→Nat→Nat→List Tk × Nat × Nat
 | 0,_,_=>([],0,0)
 | f+1,line,a =>
  if (yv g l a).e≠0 then ([],yN g l a,(yv g l a).e) else if (yv g l a).k=0 then ([tkG g l line a],0,0)
  else if (Yl g l f (xM g l line a) (yN g l a+(yv g l a).sz)).2.2≠0 then ([],(Yl g l f (xM g l line a) (yN g l a+(yv g l a).sz)).2.1,(Yl g l f (xM g l line a) (yN g l a+(yv g l a).sz)).2.2)
  else (tkG g l line a::(Yl g l f (xM g l line a) (yN g l a+(yv g l a).sz)).1,0,0)
theorem XU (l:List UInt8):∀(f line a:Nat),Zd l f line a=Yl ZF l f line a
 | 0,_,_=>rfl
 | f+1,line,a=>by
  unfold Zd Yl
  rw [XU l f]
  rfl
def yw (l:List UInt8):List Tk × Nat × Nat:=Yl (fun l=>vZ (l.length+1) l) l (l.length+1) 1 0
theorem XV {l:List UInt8} (h:l.length≤4096):zJ l=yw l:=by
 unfold zJ yw
 rw [if_neg (by omega),XU,v6]
end Go.Proofs.YtmbofhpmockmbaaGreatDoor
