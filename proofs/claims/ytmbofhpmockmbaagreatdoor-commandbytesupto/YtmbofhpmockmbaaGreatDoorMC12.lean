import Derived.Test.YtmbofhpmockmbaaGreatDoorXIter
namespace Go.Proofs.YtmbofhpmockmbaaGreatDoor
open Go.RowKit
def yi (l:List UInt8):Nat→Nat→List Tk→Nat→Nat→Prop
 | line0,a0,[],line,a=>line=line0∧a=a0
 | line0,a0,t::ts,line,a=>(zv l a0).e=0∧t=tkT l line0 a0∧yi l (ZC l line0 a0) (zF l a0+(zv l a0).sz) ts line a
theorem Yy {l:List UInt8} {line a:Nat} (he:(zv l a).e=0):∀{ts:List Tk} {line0 a0:Nat},yi l line0 a0 ts line a →
  yi l line0 a0 (ts++[tkT l line a]) (ZC l line a) (zF l a+(zv l a).sz)
 | [],line0,a0,⟨h1,h2⟩=>by subst h1;subst h2;exact ⟨he,rfl,rfl,rfl⟩
 | t::ts,line0,a0,⟨h1,h2,h3⟩=>⟨h1,h2,Yy he h3⟩
theorem Yz {l:List UInt8} {t:Tk} {line a:Nat}:∀{ts:List Tk} {line0 a0:Nat},yi l line0 a0 (ts++[t]) line a →
  ∃o y,yi l line0 a0 ts o y∧(zv l y).e=0∧t=tkT l o y
 | [],line0,a0,h=>⟨line0,a0,⟨rfl,rfl⟩,h.1,h.2.1⟩
 | _::ts,line0,a0,h=>by
  obtain ⟨o,y,D,A,z⟩:=Yz (ts:=ts) h.2.2;exact ⟨o,y,⟨h.1,h.2.1,D⟩,A,z⟩
def Zm (l:List UInt8):Nat→Nat→Nat→List Tk × Nat × Nat
 | 0,_,_=>([],0,0)
 | f+1,line,a =>
  if (zv l a).e≠0 then ([],zF l a,(zv l a).e) else if (zv l a).k=0 then ([tkT l line a],0,0)
  else if (Zm l f (ZC l line a) (zF l a+(zv l a).sz)).2.2≠0 then ([],(Zm l f (ZC l line a) (zF l a+(zv l a).sz)).2.1,(Zm l f (ZC l line a) (zF l a+(zv l a).sz)).2.2)
  else (tkT l line a::(Zm l f (ZC l line a) (zF l a+(zv l a).sz)).1,0,0)
def zL (l:List UInt8):List Tk × Nat × Nat:=if 4096<l.length then ([],0,5) else Zm l (l.length+1) 1 0
theorem yA {l:List UInt8} {a:Nat} (ha:a≤l.length) (he:(zv l a).e=0) (hk:(zv l a).k≠0):a<zF l a+(zv l a).sz∧zF l a+(zv l a).sz≤l.length:=by
 have z:=xQ ha;have o:=Vh (l.drop (a+ZV (l.drop a))) he;have A:=o.2.1 hk;have y:=o.1;rw [List.length_drop] at y
 unfold zF at z ⊢
 unfold zv
 omega
theorem xR {l:List UInt8} {line a:Nat} (he:(zv l a).e≠0):∀(ts:List Tk) (line0 a0 f:Nat),yi l line0 a0 ts line a→(∀t∈ts,t.k≠0)→a0≤l.length→l.length<a0+f →
  Zm l f line0 a0=([],zF l a,(zv l a).e)
 | [],line0,a0,f,⟨h1,h2⟩,_,ha,hf=>by
  subst h1;subst h2;obtain ⟨f,rfl⟩:∃g,f=g+1:=⟨f-1,by omega⟩
  unfold Zm;rw [if_pos he]
 | t::ts,line0,a0,f,⟨h1,h2,h3⟩,hk,ha,hf=>by
  obtain ⟨f,rfl⟩:∃g,f=g+1:=⟨f-1,by omega⟩
  have o:(zv l a0).k≠0:=by have:=hk t (List.mem_cons_self ..);rw [h2] at this;exact this
  have z:=yA ha h1 o;have y:=xR he ts _ _ f h3 (fun t ht=>hk t (List.mem_cons_of_mem _ ht)) z.2 (by omega)
  unfold Zm
  rw [if_neg (by simp [h1]),if_neg o,y,if_pos he]
theorem xS {l:List UInt8} {line a:Nat} (he:(zv l a).e=0) (hz:(zv l a).k=0):∀(ts:List Tk) (line0 a0 f:Nat),yi l line0 a0 ts line a→(∀t∈ts,t.k≠0)→a0≤l.length→l.length<a0+f →
  Zm l f line0 a0=(ts++[tkT l line a],0,0)
 | [],line0,a0,f,⟨h1,h2⟩,_,ha,hf=>by
  subst h1;subst h2;obtain ⟨f,rfl⟩:∃g,f=g+1:=⟨f-1,by omega⟩
  unfold Zm;rw [if_neg (by simp [he]),if_pos hz];rfl
 | t::ts,line0,a0,f,⟨h1,h2,h3⟩,hk,ha,hf=>by
  obtain ⟨f,rfl⟩:∃g,f=g+1:=⟨f-1,by omega⟩
  have o:(zv l a0).k≠0:=by have:=hk t (List.mem_cons_self ..);rw [h2] at this;exact this
  have z:=yA ha h1 o;have y:=xS he hz ts _ _ f h3 (fun t ht=>hk t (List.mem_cons_of_mem _ ht)) z.2 (by omega)
  unfold Zm
  rw [if_neg (by simp [h1]),if_neg o,y,if_neg (by simp),h2]
  rfl
theorem y7 {l:List UInt8} {line a:Nat}:∀(ts:List Tk) (line0 a0:Nat),yi l line0 a0 ts line a→(∀t∈ts,t.k≠0)→a0≤l.length→line0≤a0+1→a0+ts.length≤a∧a≤l.length∧line≤a+1
 | [],line0,a0,⟨h1,e⟩,_,ha,hl=>by subst h1;subst e;exact ⟨by simp,ha,hl⟩
 | t::ts,line0,a0,⟨h1,e,h3⟩,hk,ha,hl=>by
  have o:(zv l a0).k≠0:=by have:=hk t (List.mem_cons_self ..);rw [e] at this;exact this
  have y:=yA ha h1 o
  have z:ZC l line0 a0≤zF l a0+1:=by
   unfold ZC zF
   have:=XT ((l.drop a0).take (ZV (l.drop a0))) 10
   have e:((l.drop a0).take (ZV (l.drop a0))).length≤ZV (l.drop a0):=List.length_take_le ..;omega
  have:=y7 ts _ _ h3 (fun t ht=>hk t (List.mem_cons_of_mem _ ht)) y.2 (by omega)
  rw [List.length_cons];omega
def zU (ts:List Tk):List Value:=ts.flatMap fun t=>[.int .i64 t.k,.string (za t.s),.int .i64 t.n,.int .i64 t.line,.int .i64 t.at0]
theorem Y2 (a b:List Tk):zU (a++b)=zU a++zU b:=by unfold zU;rw [List.flatMap_append]
theorem Vi:∀(f:Nat) (meant:List UInt8) (at0:Nat) (r:List UInt8),meant.length≤255→(Zc f meant at0 r).s.length≤255
 | 0,_,_,_,_=>by simp [Zc]
 | _+1,_,_,[],_=>by simp [Zc]
 | f+1,meant,at0,x::r,h=>by
  unfold Zc
  split
  ·exact h
  ·split
   ·simp
   ·split
    ·simp
    ·rename_i e
     exact Vi f _ _ _ (by rw [List.length_append];simp;omega)
theorem UF (l:List UInt8):(ZB l).s.length≤l.length+255:=by
 cases l with
 | nil=>simp [ZB]
 | cons x r =>
  unfold ZB
  simp only
  split
  ·have:=Y0 (x::r)
   unfold yo
   split
   ·exact Nat.le_trans this (by omega)
   ·split
    ·simp
    ·exact Nat.le_trans this (by omega)
  ·split
   ·unfold Y1;split <;> exact Nat.zero_le _
   ·split
    ·have e:(Z9 (x::r)).s.length≤255:=Vi (x::r).length [] 1 ((x::r).drop 1) (Nat.zero_le _)
     exact Nat.le_trans e (Nat.le_add_left 255 _)
    ·unfold yN
     have e:=xO (x::r) 25;generalize bestS (x::r) 25=bb at e ⊢
     split
     ·exact Nat.zero_le _
     ·have o:2≤(x::r).length+255:=Nat.le_trans (by decide) (Nat.le_add_left 255 _)
      exact Nat.le_trans e o
def uD:Nat→List UInt8→Nat
 | 0,_=>0
 | f+1,l=>if YZ (l.drop (Za zy l))=true then
   Za zy l+(Za z8 (l.drop (Za zy l))+uD f ((l.drop (Za zy l)).drop (Za z8 (l.drop (Za zy l)))))
  else Za zy l
theorem Vj:∀(f:Nat) (l:List UInt8),l.length<f→ZV l=uD f l
 | 0,l,h=>by omega
 | f+1,l,h=>by
  rw [ZV,uD]
  by_cases hr:YZ (l.drop (Za zy l))=true
  ·rw [dif_pos hr,if_pos hr,Vj f _ (by
    have:=yM hr
    have e:=ye z8 (l.drop (Za zy l));simp only [List.length_drop] at *
    omega)]
  ·rw [dif_neg hr,if_neg hr]
theorem uE:ZV=fun l=>uD (l.length+1) l:=funext fun l=>Vj _ l (Nat.lt_succ_self _)
def yY (g:List UInt8→Nat) (l:List UInt8) (a:Nat):TR:=ZB (l.drop (a+g (l.drop a)))
def XU (g:List UInt8→Nat) (l:List UInt8) (line a:Nat):Nat:=line+Lib.countByte ((l.drop a).take (g (l.drop a))) 10
def Ym (g:List UInt8→Nat) (l:List UInt8) (a:Nat):Nat:=a+g (l.drop a)
def tkG (g:List UInt8→Nat) (l:List UInt8) (line a:Nat):Tk:=⟨(yY g l a).k,(yY g l a).s,(yY g l a).n,XU g l line a,Ym g l a⟩
def Y3 (g:List UInt8→Nat) (l:List UInt8):Nat→Nat→Nat→List Tk × Nat × Nat
 | 0,_,_=>([],0,0)
 | f+1,line,a =>
  if (yY g l a).e≠0 then ([],Ym g l a,(yY g l a).e) else if (yY g l a).k=0 then ([tkG g l line a],0,0)
  else if (Y3 g l f (XU g l line a) (Ym g l a+(yY g l a).sz)).2.2≠0 then ([],(Y3 g l f (XU g l line a) (Ym g l a+(yY g l a).sz)).2.1,(Y3 g l f (XU g l line a) (Ym g l a+(yY g l a).sz)).2.2)
  else (tkG g l line a::(Y3 g l f (XU g l line a) (Ym g l a+(yY g l a).sz)).1,0,0)
theorem Vk (l:List UInt8):∀(f line a:Nat),Zm l f line a=Y3 ZV l f line a
 | 0,_,_=>rfl
 | f+1,line,a=>by
  unfold Zm Y3
  rw [Vk l f]
  rfl
def yZ (l:List UInt8):List Tk × Nat × Nat:=Y3 (fun l=>uD (l.length+1) l) l (l.length+1) 1 0
theorem Vl {l:List UInt8} (h:l.length≤4096):zL l=yZ l:=by
 unfold zL yZ
 rw [if_neg (by omega),Vk,uE]
end Go.Proofs.YtmbofhpmockmbaaGreatDoor
