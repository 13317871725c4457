import Derived.Test.YtmbofhpmockmbaaGreatDoorXIter
namespace Go.Proofs.YtmbofhpmockmbaaGreatDoor
open Go.RowKit
def yq (l:List UInt8):Nat→Nat→List Tk→Nat→Nat→Prop
 | line0,a0,[],line,a=>line=line0∧a=a0
 | line0,a0,t::ts,line,a=>(zw l a0).e=0∧t=tkT l line0 a0∧yq l (ZK l line0 a0) (zG l a0+(zw l a0).sz) ts line a
theorem YY {l:List UInt8} {line a:Nat} (he:(zw l a).e=0):∀{ts:List Tk} {line0 a0:Nat},yq l line0 a0 ts line a →
  yq l line0 a0 (ts++[tkT l line a]) (ZK l line a) (zG l a+(zw l a).sz)
 | [],line0,a0,⟨h1,h2⟩=>by subst h1;subst h2;exact ⟨he,rfl,rfl,rfl⟩
 | t::ts,line0,a0,⟨h1,h2,h3⟩=>⟨h1,h2,YY he h3⟩
theorem YZ {l:List UInt8} {t:Tk} {line a:Nat}:∀{ts:List Tk} {line0 a0:Nat},yq l line0 a0 (ts++[t]) line a →
  ∃o y,yq l line0 a0 ts o y∧(zw l y).e=0∧t=tkT l o y
 | [],line0,a0,h=>⟨line0,a0,⟨rfl,rfl⟩,h.1,h.2.1⟩
 | _::ts,line0,a0,h=>by
  obtain ⟨o,y,D,z,A⟩:=YZ (ts:=ts) h.2.2;exact ⟨o,y,⟨h.1,h.2.1,D⟩,z,A⟩
def Zu (l:List UInt8):Nat→Nat→Nat→List Tk × Nat × Nat
 | 0,_,_=>([],0,0)
 | f+1,line,a =>
  if (zw l a).e≠0 then ([],zG l a,(zw l a).e) else if (zw l a).k=0 then ([tkT l line a],0,0)
  else if (Zu l f (ZK l line a) (zG l a+(zw l a).sz)).2.2≠0 then ([],(Zu l f (ZK l line a) (zG l a+(zw l a).sz)).2.1,(Zu l f (ZK l line a) (zG l a+(zw l a).sz)).2.2)
  else (tkT l line a::(Zu l f (ZK l line a) (zG l a+(zw l a).sz)).1,0,0)
def zS (l:List UInt8):List Tk × Nat × Nat:=if 4096<l.length then ([],0,5) else Zu l (l.length+1) 1 0
theorem yI {l:List UInt8} {a:Nat} (ha:a≤l.length) (he:(zw l a).e=0) (hk:(zw l a).k≠0):a<zG l a+(zw l a).sz∧zG l a+(zw l a).sz≤l.length:=by
 have z:=Xs ha;have o:=VS (l.drop (a+Z7 (l.drop a))) he;have A:=o.2.1 hk;have y:=o.1;rw [List.length_drop] at y
 unfold zG at z ⊢
 unfold zw
 omega
theorem Xt {l:List UInt8} {line a:Nat} (he:(zw l a).e≠0):∀(ts:List Tk) (line0 a0 f:Nat),yq l line0 a0 ts line a→(∀t∈ts,t.k≠0)→a0≤l.length→l.length<a0+f →
  Zu l f line0 a0=([],zG l a,(zw l a).e)
 | [],line0,a0,f,⟨h1,h2⟩,_,ha,hf=>by
  subst h1;subst h2;obtain ⟨f,rfl⟩:∃g,f=g+1:=⟨f-1,by omega⟩
  unfold Zu;rw [if_pos he]
 | t::ts,line0,a0,f,⟨h1,h2,h3⟩,hk,ha,hf=>by
  obtain ⟨f,rfl⟩:∃g,f=g+1:=⟨f-1,by omega⟩
  have o:(zw l a0).k≠0:=by have:=hk t (List.mem_cons_self ..);rw [h2] at this;exact this
  have z:=yI ha h1 o;have y:=Xt he ts _ _ f h3 (fun t ht=>hk t (List.mem_cons_of_mem _ ht)) z.2 (by omega)
  unfold Zu
  rw [if_neg (by simp [h1]),if_neg o,y,if_pos he]
theorem Xu {l:List UInt8} {line a:Nat} (he:(zw l a).e=0) (hz:(zw l a).k=0):∀(ts:List Tk) (line0 a0 f:Nat),yq l line0 a0 ts line a→(∀t∈ts,t.k≠0)→a0≤l.length→l.length<a0+f →
  Zu l f line0 a0=(ts++[tkT l line a],0,0)
 | [],line0,a0,f,⟨h1,h2⟩,_,ha,hf=>by
  subst h1;subst h2;obtain ⟨f,rfl⟩:∃g,f=g+1:=⟨f-1,by omega⟩
  unfold Zu;rw [if_neg (by simp [he]),if_pos hz];rfl
 | t::ts,line0,a0,f,⟨h1,h2,h3⟩,hk,ha,hf=>by
  obtain ⟨f,rfl⟩:∃g,f=g+1:=⟨f-1,by omega⟩
  have o:(zw l a0).k≠0:=by have:=hk t (List.mem_cons_self ..);rw [h2] at this;exact this
  have z:=yI ha h1 o;have y:=Xu he hz ts _ _ f h3 (fun t ht=>hk t (List.mem_cons_of_mem _ ht)) z.2 (by omega)
  unfold Zu
  rw [if_neg (by simp [h1]),if_neg o,y,if_neg (by simp),h2]
  rfl
theorem Yq {l:List UInt8} {line a:Nat}:∀(ts:List Tk) (line0 a0:Nat),yq l line0 a0 ts line a→(∀t∈ts,t.k≠0)→a0≤l.length→line0≤a0+1→a0+ts.length≤a∧a≤l.length∧line≤a+1
 | [],line0,a0,⟨h1,o⟩,_,ha,hl=>by subst h1;subst o;exact ⟨by simp,ha,hl⟩
 | t::ts,line0,a0,⟨h1,o,h3⟩,hk,ha,hl=>by
  have y:(zw l a0).k≠0:=by have:=hk t (List.mem_cons_self ..);rw [o] at this;exact this
  have z:=yI ha h1 y
  have A:ZK l line0 a0≤zG l a0+1:=by
   unfold ZK zG
   have:=vC ((l.drop a0).take (Z7 (l.drop a0))) 10
   have o:((l.drop a0).take (Z7 (l.drop a0))).length≤Z7 (l.drop a0):=List.length_take_le ..;omega
  have:=Yq ts _ _ h3 (fun t ht=>hk t (List.mem_cons_of_mem _ ht)) z.2 (by omega)
  rw [List.length_cons];omega
def z6 (ts:List Tk):List Value:=ts.flatMap fun t=>[.int .i64 t.k,.string (za t.s),.int .i64 t.n,.int .i64 t.line,.int .i64 t.at0]
theorem xz (a b:List Tk):z6 (a++b)=z6 a++z6 b:=by unfold z6;rw [List.flatMap_append]
theorem VT:∀(f:Nat) (meant:List UInt8) (at0:Nat) (r:List UInt8),meant.length≤255→(Zj f meant at0 r).s.length≤255
 | 0,_,_,_,_=>by simp [Zj]
 | _+1,_,_,[],_=>by simp [Zj]
 | f+1,meant,at0,x::r,h=>by
  unfold Zj
  split
  ·exact h
  ·split
   ·simp
   ·split
    ·simp
    ·rename_i o
     exact VT f _ _ _ (by rw [List.length_append];simp;omega)
theorem qk (l:List UInt8):(ZJ l).s.length≤l.length+255:=by
 cases l with
 | nil=>simp [ZJ]
 | cons x r =>
  unfold ZJ
  simp only
  split
  ·have:=xx (x::r)
   unfold yy
   split
   ·exact Nat.le_trans this (by omega)
   ·split
    ·simp
    ·exact Nat.le_trans this (by omega)
  ·split
   ·unfold xy;split <;> exact Nat.zero_le _
   ·split
    ·have o:(yh (x::r)).s.length≤255:=VT (x::r).length [] 1 ((x::r).drop 1) (Nat.zero_le _)
     exact Nat.le_trans o (Nat.le_add_left 255 _)
    ·unfold Ya
     have o:=Xq (x::r) 25;generalize bestS (x::r) 25=bb at o ⊢
     split
     ·exact Nat.zero_le _
     ·have y:2≤(x::r).length+255:=Nat.le_trans (by decide) (Nat.le_add_left 255 _)
      exact Nat.le_trans o y
def Ul:Nat→List UInt8→Nat
 | 0,_=>0
 | f+1,l=>if xw (l.drop (Zh zz l))=true then
   Zh zz l+(Zh Zg (l.drop (Zh zz l))+Ul f ((l.drop (Zh zz l)).drop (Zh Zg (l.drop (Zh zz l)))))
  else Zh zz l
theorem VU:∀(f:Nat) (l:List UInt8),l.length<f→Z7 l=Ul f l
 | 0,l,h=>by omega
 | f+1,l,h=>by
  rw [Z7,Ul]
  by_cases hr:xw (l.drop (Zh zz l))=true
  ·rw [dif_pos hr,if_pos hr,VU f _ (by
    have:=yZ hr
    have o:=ym Zg (l.drop (Zh zz l));simp only [List.length_drop] at *
    omega)]
  ·rw [dif_neg hr,if_neg hr]
theorem Um:Z7=fun l=>Ul (l.length+1) l:=funext fun l=>VU _ l (Nat.lt_succ_self _)
def Yi (g:List UInt8→Nat) (l:List UInt8) (a:Nat):TR:=ZJ (l.drop (a+g (l.drop a)))
def vD (g:List UInt8→Nat) (l:List UInt8) (line a:Nat):Nat:=line+Lib.countByte ((l.drop a).take (g (l.drop a))) 10
def YM (g:List UInt8→Nat) (l:List UInt8) (a:Nat):Nat:=a+g (l.drop a)
def tkG (g:List UInt8→Nat) (l:List UInt8) (line a:Nat):Tk:=⟨(Yi g l a).k,(Yi g l a).s,(Yi g l a).n,vD g l line a,YM g l a⟩
def xA (g:List UInt8→Nat) (l:List UInt8):Nat→Nat→Nat→List Tk × Nat × Nat
 | 0,_,_=>([],0,0)
 | f+1,line,a =>
  if (Yi g l a).e≠0 then ([],YM g l a,(Yi g l a).e) else if (Yi g l a).k=0 then ([tkG g l line a],0,0)
  else if (xA g l f (vD g l line a) (YM g l a+(Yi g l a).sz)).2.2≠0 then ([],(xA g l f (vD g l line a) (YM g l a+(Yi g l a).sz)).2.1,(xA g l f (vD g l line a) (YM g l a+(Yi g l a).sz)).2.2)
  else (tkG g l line a::(xA g l f (vD g l line a) (YM g l a+(Yi g l a).sz)).1,0,0)
theorem VV (l:List UInt8):∀(f line a:Nat),Zu l f line a=xA Z7 l f line a
 | 0,_,_=>rfl
 | f+1,line,a=>by
  unfold Zu xA
  rw [VV l f]
  rfl
def Yj (l:List UInt8):List Tk × Nat × Nat:=xA (fun l=>Ul (l.length+1) l) l (l.length+1) 1 0
theorem VW {l:List UInt8} (h:l.length≤4096):zS l=Yj l:=by
 unfold zS Yj
 rw [if_neg (by omega),VV,Um]
end Go.Proofs.YtmbofhpmockmbaaGreatDoor
