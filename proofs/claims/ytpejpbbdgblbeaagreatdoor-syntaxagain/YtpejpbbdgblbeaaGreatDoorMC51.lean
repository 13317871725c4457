import Derived.Test.YtpejpbbdgblbeaaGreatDoorMC50
import Derived.Test.YtpejpbbdgblbeaaGreatDoorMC45
import Derived.Test.YtpejpbbdgblbeaaGreatDoorMC44
import Derived.Test.YtpejpbbdgblbeaaGreatDoorMC31
import Derived.Test.YtpejpbbdgblbeaaGreatDoorMC29
namespace Go.Proofs.YtpejpbbdgblbeaaGreatDoor
open Go.RowKit Go.Shelf
mutual
def dpS:Sz→Nat
 | .mk _ _ es body els _=>max (dpL es) (max (zdZ body) (zdZ els))+1
def zdZ:List Sz→Nat
 | []=>0
 | x::xs=>max (dpS x) (zdZ xs)
end
theorem Q4 {P:Tk→Prop} (f:Nat) :
  (∀ts x us,Ze f ts=some (.ok (x,us))→(∀t∈ts,P t)→∀t∈us,P t)∧(∀ts x us,zH f ts=some (.ok (x,us))→(∀t∈ts,P t)→∀t∈us,P t)∧(∀pre ts x us,Zd f pre ts=some (.ok (x,us))→(∀t∈ts,P t)→∀t∈us,P t):=by
 induction f with
 | zero=>refine ⟨?_,?_,?_⟩ <;> intros <;> simp_all [Ze,zH,Zd]
 | succ f ih =>
  obtain ⟨J,G,H⟩:=ih;have z:=fun ts x us h hW=>(vu (P:=P) f).1 1 ts x us h hW
  refine ⟨fun ts x us h hW=>?_,fun ts x us h hW=>?_,fun pre ts x us h hW=>?_⟩
  ·rw [Ze] at h
   split at h
   ·obtain ⟨_,_,o,h⟩:=za h
    obtain ⟨_,_,y,h⟩:=za h;obtain ⟨_,_,A,h⟩:=za h;obtain ⟨_,_,I,h⟩:=za h;obtain ⟨rfl,rfl⟩:=zk h;exact Zb I (z _ _ _ A (Zb y (Z9 o (zt hW))))
   split at h
   ·obtain ⟨_,_,o,h⟩:=za h
    obtain ⟨_,_,y,h⟩:=za h;have D:=G _ _ _ y (z _ _ _ o (zt hW))
    split at h
    ·obtain ⟨_,_,A,h⟩:=za h
     obtain ⟨rfl,rfl⟩:=zk h;exact G _ _ _ A (zt D)
    ·obtain ⟨rfl,rfl⟩:=zk h
     exact D
   split at h
   ·obtain ⟨_,_,o,h⟩:=za h
    obtain ⟨_,_,y,h⟩:=za h;obtain ⟨rfl,rfl⟩:=zk h;exact G _ _ _ y (z _ _ _ o (zt hW))
   split at h
   ·split at h
    ·obtain ⟨rfl,rfl⟩:=zk h
     exact zt (zt hW)
    ·obtain ⟨_,_,o,h⟩:=za h
     obtain ⟨_,_,y,h⟩:=za h;obtain ⟨rfl,rfl⟩:=zk h;exact Zb y (z _ _ _ o (zt hW))
   ·obtain ⟨_,_,o,h⟩:=za h
    have D:=z _ _ _ o hW
    split at h
    ·split at h
     ·obtain ⟨_,_,y,h⟩:=za h
      obtain ⟨_,_,A,h⟩:=za h;obtain ⟨rfl,rfl⟩:=zk h;exact Zb A (z _ _ _ y (zt D))
     ·cases h
    ·obtain ⟨_,_,y,h⟩:=za h
     obtain ⟨rfl,rfl⟩:=zk h;exact Zb y D
  ·rw [zH] at h
   obtain ⟨_,_,o,h⟩:=za h;exact H _ _ _ _ h (Zb o hW)
  ·rw [Zd] at h
   split at h
   ·obtain ⟨rfl,rfl⟩:=zk h
    exact zt hW
   ·obtain ⟨_,_,o,h⟩:=za h
    exact H _ _ _ _ h (J _ _ _ o hW)
theorem Vs {k:Nat} {s:List UInt8} {es:List Ex} {b c:List St} {line:Nat} (hs:s.length≤100000000) (he:UV es=true) (hb:vO b=true) (hc:vO c=true):okS (.mk k s es b c line)=true:=by
 rw [okS];simp [hs,he,hb,hc]
theorem zd0 {l:List St} {x:St} (h:vO l=true) (g:okS x=true):vO (l++[x])=true:=by
 induction l with
 | nil=>simp [vO,g]
 | cons y ys ih =>
  rw [vO,Bool.and_eq_true] at h;rw [List.cons_append,vO,h.1,ih h.2];rfl
theorem zco (f:Nat) :
  (∀ts x us,Ze f ts=some (.ok (x,us))→(∀t∈ts,Uf t)→okS x=true)∧(∀ts x us,zH f ts=some (.ok (x,us))→(∀t∈ts,Uf t)→vO x=true)∧(∀pre ts x us,Zd f pre ts=some (.ok (x,us))→(∀t∈ts,Uf t)→vO pre=true→vO x=true):=by
 induction f with
 | zero=>refine ⟨?_,?_,?_⟩ <;> intros <;> simp_all [Ze,zH,Zd]
 | succ f ih =>
  obtain ⟨O,D,J⟩:=ih;obtain ⟨Q,N,R⟩:=Q4 (P:=Uf) f;have I:=fun ts x us h hW=>(vu (P:=Uf) f).1 1 ts x us h hW
  have z:=fun ts x us h hW=>(zbc f).1 1 ts x us h hW
  refine ⟨fun ts x us h hW=>?_,fun ts x us h hW=>?_,fun pre ts x us h hW hp=>?_⟩
  ·rw [Ze] at h
   split at h
   ·obtain ⟨_,_,o,h⟩:=za h
    obtain ⟨_,_,y,h⟩:=za h;obtain ⟨_,_,A,h⟩:=za h;obtain ⟨_,_,T,h⟩:=za h;obtain ⟨rfl,rfl⟩:=zk h
    have:=vx o
    exact Vs (by rw [this];exact (Uf.hd (zt hW)).1) (xS (z _ _ _ A (Zb y (Z9 o (zt hW))))) rfl rfl
   split at h
   ·obtain ⟨_,_,o,h⟩:=za h
    obtain ⟨_,_,y,h⟩:=za h;have G:=I _ _ _ o (zt hW);have H:=N _ _ _ y G;have L:=xS (z _ _ _ o (zt hW))
    split at h
    ·obtain ⟨_,_,A,h⟩:=za h
     obtain ⟨rfl,rfl⟩:=zk h;exact Vs (by simp) L (D _ _ _ y G) (D _ _ _ A (zt H))
    ·obtain ⟨rfl,rfl⟩:=zk h
     exact Vs (by simp) L (D _ _ _ y G) rfl
   split at h
   ·obtain ⟨_,_,o,h⟩:=za h
    obtain ⟨_,_,y,h⟩:=za h;obtain ⟨rfl,rfl⟩:=zk h;exact Vs (by simp) (xS (z _ _ _ o (zt hW))) (D _ _ _ y (I _ _ _ o (zt hW))) rfl
   split at h
   ·split at h
    ·obtain ⟨rfl,rfl⟩:=zk h
     rfl
    ·obtain ⟨_,_,o,h⟩:=za h
     obtain ⟨_,_,y,h⟩:=za h;obtain ⟨rfl,rfl⟩:=zk h;exact Vs (by simp) (xS (z _ _ _ o (zt hW))) rfl rfl
   ·obtain ⟨_,_,o,h⟩:=za h
    have H:=I _ _ _ o hW
    split at h
    ·split at h
     ·obtain ⟨_,_,y,h⟩:=za h
      obtain ⟨_,_,A,h⟩:=za h;obtain ⟨rfl,rfl⟩:=zk h;exact Vs (by simp) (Q3 (z _ _ _ o hW) (z _ _ _ y (zt H))) rfl rfl
     ·cases h
    ·obtain ⟨_,_,y,h⟩:=za h
     obtain ⟨rfl,rfl⟩:=zk h;exact Vs (by simp) (xS (z _ _ _ o hW)) rfl rfl
  ·rw [zH] at h
   obtain ⟨_,_,o,h⟩:=za h;exact J _ _ _ _ h (Zb o hW) rfl
  ·rw [Zd] at h
   split at h
   ·obtain ⟨rfl,rfl⟩:=zk h
    exact hp
   ·obtain ⟨_,_,o,h⟩:=za h
    exact J _ _ _ _ h (Q _ _ _ o hW) (zd0 hp (O _ _ _ o hW))
mutual
def uo:St→Nat
 | .mk _ _ es b c _=>1+(yR es+(yP b+yP c))
def yP:List St→Nat
 | []=>0
 | x::xs=>uo x+yP xs
end
theorem zcp (l:List St) (x:St):yP (l++[x])=yP l+uo x:=by
 induction l with
 | nil=>simp [yP]
 | cons y ys ih=>simp [yP,ih,Nat.add_assoc]
theorem zfu (f:Nat) :
  (∀ts x us,Ze f ts=some (.ok (x,us))→uo x+us.length≤ts.length)∧(∀ts x us,zH f ts=some (.ok (x,us))→yP x+us.length≤ts.length)∧(∀pre ts x us,Zd f pre ts=some (.ok (x,us))→yP x+us.length≤yP pre+ts.length):=by
 induction f with
 | zero=>refine ⟨?_,?_,?_⟩ <;> intros <;> simp_all [Ze,zH,Zd]
 | succ f ih =>
  obtain ⟨R,J,Q⟩:=ih;have G:=fun ts x us h=>(zdU f).1 1 ts x us h
  refine ⟨fun ts x us h=>?_,fun ts x us h=>?_,fun pre ts x us h=>?_⟩
  ·rw [Ze] at h
   split at h
   ·rename_i A
    have I:=Zf A;obtain ⟨_,_,o,h⟩:=za h;obtain ⟨_,_,y,h⟩:=za h;obtain ⟨_,_,H,h⟩:=za h;obtain ⟨_,_,T,h⟩:=za h;obtain ⟨rfl,rfl⟩:=zk h;have D:=yH o;have z:=z7 y;have N:=G _ _ _ H;have L:=z7 T;simp only [uo,yR,yP];omega
   split at h
   ·rename_i A
    have I:=Zf A;obtain ⟨_,_,o,h⟩:=za h;obtain ⟨_,O,y,h⟩:=za h;have D:=G _ _ _ o;have z:=J _ _ _ y
    split at h
    ·obtain ⟨_,_,H,h⟩:=za h
     obtain ⟨rfl,rfl⟩:=zk h;have N:=J _ _ _ H;have L:=xR O;simp only [uo,yR];omega
    ·obtain ⟨rfl,rfl⟩:=zk h
     simp only [uo,yR,yP];omega
   split at h
   ·rename_i A
    have I:=Zf A;obtain ⟨_,_,o,h⟩:=za h;obtain ⟨_,_,y,h⟩:=za h;obtain ⟨rfl,rfl⟩:=zk h;have D:=G _ _ _ o;have z:=J _ _ _ y;simp only [uo,yR,yP];omega
   split at h
   ·rename_i A
    have I:=Zf A
    split at h
    ·obtain ⟨rfl,rfl⟩:=zk h
     have L:=xR ts.tail;simp only [uo,yR,yP];omega
    ·obtain ⟨_,_,o,h⟩:=za h
     obtain ⟨_,_,y,h⟩:=za h;obtain ⟨rfl,rfl⟩:=zk h;have D:=G _ _ _ o;have z:=z7 y;simp only [uo,yR,yP];omega
   ·obtain ⟨_,O,o,h⟩:=za h
    have D:=G _ _ _ o
    split at h
    ·rename_i A
     have I:=Zf A
     split at h
     ·obtain ⟨_,_,y,h⟩:=za h
      obtain ⟨_,_,H,h⟩:=za h;obtain ⟨rfl,rfl⟩:=zk h;have z:=G _ _ _ y;have N:=z7 H;simp only [uo,yR,yP];omega
     ·cases h
    ·obtain ⟨_,_,y,h⟩:=za h
     obtain ⟨rfl,rfl⟩:=zk h;have z:=z7 y;simp only [uo,yR,yP];omega
  ·rw [zH] at h
   obtain ⟨_,_,o,h⟩:=za h;have D:=z7 o;have z:=Q _ _ _ _ h;simp only [yP] at z;omega
  ·rw [Zd] at h
   split at h
   ·obtain ⟨rfl,rfl⟩:=zk h
    have D:=xR ts;omega
   ·obtain ⟨_,_,o,h⟩:=za h
    have D:=R _ _ _ o;have z:=Q _ _ _ _ h;rw [zcp] at z;omega
theorem vz {M:Nat}:∀(ts:List Tk) (k:Nat) (s:List UInt8) (us:List Tk),ZB k ts=.ok (s,us)→(∀t∈ts,t.s.length≤M)→s.length≤2*k+2*ts.length+M
 | [],k,s,us,h,_=>by simp [ZB] at h
 | t::ts,k,s,us,h,hM=>by
  rw [ZB] at h
  split at h
  ·have:=vz ts (k+1) s us h fun x hx=>hM x (List.mem_cons_of_mem _ hx)
   simp only [List.length_cons];omega
  ·split at h
   ·cases hc:ZS k ts with
    | error a=>rw [hc] at h;simp [Xg] at h
    | ok vs =>
     rw [hc] at h;simp only [Xg,Except.ok.injEq,Prod.mk.injEq] at h;obtain ⟨rfl,-⟩:=h
     have:=hM t (List.mem_cons_self ..)
     simp only [List.length_append,List.length_replicate,List.length_cons];omega
   ·cases h
theorem zcq {n:Nat}:∀{ts o:List Tk},ZS n ts=.ok o→o.length≤ts.length:=by
 induction n with
 | zero=>intro ts o h;cases h;exact Nat.le_refl _
 | succ n ih =>
  intro ts o h;rw [ZS] at h
  split at h
  ·exact Nat.le_trans (ih h) (xR _)
  ·cases h
theorem Qk:∀(ts:List Tk) (k:Nat) (s:List UInt8) (us:List Tk),ZB k ts=.ok (s,us)→us.length≤ts.length
 | [],k,s,us,h=>by simp [ZB] at h
 | t::ts,k,s,us,h=>by
  rw [ZB] at h
  split at h
  ·have:=Qk ts (k+1) s us h
   simp only [List.length_cons];omega
  ·split at h
   ·cases hc:ZS k ts with
    | error a=>rw [hc] at h;simp [Xg] at h
    | ok vs =>
     rw [hc] at h;simp only [Xg,Except.ok.injEq,Prod.mk.injEq] at h;obtain ⟨-,rfl⟩:=h
     have:=zcq hc
     simp only [List.length_cons];omega
   ·cases h
def Tk5 (t:Tk):Prop:=Uf t∧t.s.length≤5000
theorem Tk5.hd {ts:List Tk} (h:∀t∈ts,Tk5 t):(zv ts).s.length≤5000:=by
 cases ts with
 | nil=>simp [zv]
 | cons t ts=>exact (h t (List.mem_cons_self ..)).2
theorem zd1 {l:List Pm} {p:Pm} (h:Q2 l=true) (h1:p.1.length≤100000000) (h2:p.2.length≤100000000):Q2 (l++[p])=true:=by
 unfold Q2 at h ⊢
 rw [List.all_append,h]
 simp [h1,h2]
theorem vX:∀(f:Nat) (o l:List Pm) (ts y:List Tk),zN f o ts=some (.ok (l,y))→(∀t∈ts,Tk5 t)→ts.length≤1000000→Q2 o=true→Q2 l=true:=by
 intro f
 induction f with
 | zero=>intro o l ts y h;simp [zN] at h
 | succ f ih =>
  intro o l ts y h z J G;rw [zN] at h
  unfold Z8 at h
  by_cases h1:(zv ts).k=1
  ·rw [if_pos h1] at h
   by_cases h2:zm (zv ts.tail) [58]=true
   ·rw [if_pos h2] at h
    have Q:=xR ts;have O:=xR ts.tail;cases hs:ZB 0 ts.tail.tail with
    | error a=>rw [hs] at h;simp at h
    | ok p =>
     obtain ⟨s,I⟩:=p;rw [hs] at h;have D:=vv _ _ _ _ hs (zt (zt z));have H:=vz (M:=5000) _ _ _ _ hs fun t ht=>(zt (zt z) t ht).2
     have N:=Tk5.hd z;have A:=zd1 (p:=((zv ts).s,s)) G (by simp only;omega) (by simp only;omega)
     simp only at h
     split at h
     ·have R:=(Qk _ _ _ _ hs)
      have L:=xR I;exact ih _ _ _ _ h (zt D) (by omega) A
     ·obtain ⟨rfl,rfl⟩:=zk h
      exact A
   ·rw [if_neg h2] at h
    simp at h
  ·rw [if_neg h1] at h
   simp at h
theorem zbe {f:Nat} {ts us:List Tk} {l:List Pm} (h:yo f ts=some (.ok (l,us))) (hP:∀t∈ts,Tk5 t) (hl:ts.length≤1000000):Q2 l=true:=by
 unfold yo at h
 obtain ⟨_,A,y,h⟩:=za h;have o:=Zb y hP;have I:=z7 y
 split at h
 ·obtain ⟨rfl,rfl⟩:=zk h
  rfl
 ·obtain ⟨_,z,G,h⟩:=za h
  obtain ⟨_,D,H,h⟩:=za h;obtain ⟨rfl,rfl⟩:=zk h;exact vX _ _ _ _ _ G o (by omega) rfl
theorem zcr {ts us:List Tk} {s:List UInt8} (h:xK ts=some (.ok (s,us))) (hP:∀t∈ts,Tk5 t) (hl:ts.length≤1000000):s.length≤100000000:=by
 unfold xK at h
 split at h
 ·have o:=xR ts
  have:=vz (M:=5000) _ _ _ _ (Option.some.inj h) fun t ht=>(zt hP t ht).2
  omega
 ·obtain ⟨rfl,rfl⟩:=zk h
  simp
theorem zc4 {s:List UInt8} {ts us:List Tk} (h:Z3 ts=some (.ok (s,us))) (hP:∀t∈ts,Tk5 t):s.length≤100000000:=by
 rw [vx h]
 have:=Tk5.hd hP
 omega
theorem qE {f line:Nat} {ts us:List Tk} {x:Rc} (h:Zl f line ts=some (.ok (x,us))) (hP:∀t∈ts,Tk5 t) (hl:ts.length≤1000000):zfq x=true:=by
 unfold Zl at h
 obtain ⟨_,_,o,h⟩:=za h;obtain ⟨_,_,y,h⟩:=za h;obtain ⟨_,_,z,h⟩:=za h;obtain ⟨_,_,G,h⟩:=za h;obtain ⟨rfl,rfl⟩:=zk h;have A:=yH o;have D:=z7 y
 unfold zfq
 rw [vX _ _ _ _ _ z (Zb y (Z9 o hP)) (by omega) rfl]
 simp [zc4 o hP]
theorem zbf {f line:Nat} {ts us:List Tk} {x:Fc} (h:ZX f line ts=some (.ok (x,us))) (hE:zi ts) (hP:∀t∈ts,Tk5 t) (hl:ts.length≤1000000):zfr x=true:=by
 unfold ZX at h
 obtain ⟨_,_,z,h⟩:=za h;obtain ⟨_,_,D,h⟩:=za h;obtain ⟨_,_,H,h⟩:=za h;obtain ⟨_,_,I,h⟩:=za h;obtain ⟨rfl,rfl⟩:=zk h;have J:=yH z;have A:=ZM z hE;have L:=uh D A;have o:=Z9 z hP;have y:=UR D o;have G:=QY H y
 unfold zfr
 rw [zbe D o (by omega),(zco f).2.1 _ _ _ I fun t ht=>(G t ht).1]
 simp [zc4 z hP,zcr H y (by omega)]
theorem Ql {P:Tk→Prop} {f line:Nat} {ts us:List Tk} {x:Fc} (h:ZX f line ts=some (.ok (x,us))) (hP:∀t∈ts,P t):∀t∈us,P t:=by
 unfold ZX at h
 obtain ⟨_,_,y,h⟩:=za h;obtain ⟨_,_,z,h⟩:=za h;obtain ⟨_,_,o,h⟩:=za h;obtain ⟨_,_,A,h⟩:=za h;obtain ⟨rfl,rfl⟩:=zk h;exact (Q4 f).2.1 _ _ _ A (QY o (UR z (Z9 y hP)))
def U0:List Fc→Nat
 | []=>0
 | x::xs=>1+yP x.body+U0 xs
theorem zd2 (l:List Fc) (x:Fc):U0 (l++[x])=U0 l+(1+yP x.body):=by
 induction l with
 | nil=>simp [U0]
 | cons y ys ih=>simp only [List.cons_append,U0,ih];omega
theorem zd3 {f line:Nat} {ts us:List Tk} {x:Fc} (h:ZX f line ts=some (.ok (x,us))) (hE:zi ts):yP x.body+us.length≤ts.length:=by
 unfold ZX at h
 obtain ⟨_,_,y,h⟩:=za h;obtain ⟨_,_,z,h⟩:=za h;obtain ⟨_,_,A,h⟩:=za h;obtain ⟨_,_,D,h⟩:=za h;obtain ⟨rfl,rfl⟩:=zk h;have G:=yH y;have o:=ZM y hE;have H:=uh z o;have J:=za8 A (xy z o);have I:=(zfu f).2.1 _ _ _ D;simp only;omega
theorem Vt:∀(f:Nat) (rs:List Rc) (fs:List Fc) (ts:List Tk) (x:Pg) (us:List Tk),Zm f rs fs ts=some (.ok (x,us))→zi ts→(∀t∈ts,Tk5 t)→ts.length≤1000000→rs.all zfq=true→fs.all zfr=true →
  (zv us).k=0∧zcl x=true∧x.recs.length+U0 x.funs≤rs.length+U0 fs+ts.length
 | 0,_,_,_,_,_,h,_,_,_,_,_=>by simp [Zm] at h
 | f+1,rs,fs,ts,x,us,h,hE,hP,hl,hr,hf=>by
  rw [Zm] at h
  by_cases c0:(zv ts).k=0
  ·rw [if_pos c0] at h
   obtain ⟨rfl,rfl⟩:=zk h;refine ⟨c0,?_,by simp only;omega⟩
   unfold zcl
   rw [hr,hf];rfl
  rw [if_neg c0] at h
  by_cases c1:zm (zv ts) [114,101,99,111,114,100]=true
  ·rw [if_pos c1] at h
   have H:=Zf c1;have o:=zD hE c1;obtain ⟨y,D,z,A⟩:=za h;have G:=vh z o;obtain ⟨a,b,c⟩:=Vt f _ _ _ _ _ A (Yy z o) (US z (zt hP)) (by omega) (by rw [List.all_append,hr];simp [qE z (zt hP) (by omega)]) hf
   refine ⟨a,b,?_⟩;rw [List.length_append] at c;simp only [List.length_cons,List.length_nil] at c;omega
  rw [if_neg c1] at h
  by_cases c2:zm (zv ts) [102,110]=true
  ·rw [if_pos c2] at h
   have H:=Zf c2;have o:=zD hE c2;obtain ⟨y,D,z,A⟩:=za h;have G:=zd3 z o;obtain ⟨a,b,c⟩:=Vt f _ _ _ _ _ A (xz z o) (Ql z (zt hP)) (by omega) hr (by rw [List.all_append,hf];simp [zbf z o (zt hP) (by omega)])
   refine ⟨a,b,?_⟩;rw [zd2] at c;omega
  ·rw [if_neg c2] at h
   simp at h
theorem zgR (l:List UInt8):∀t∈(zW l).1,Tk5 t:=by
 intro t o;refine ⟨(zbd l t o).1,?_⟩
 by_cases h:(zW l).2.2=0
 ·obtain ⟨-,-,-,-,-,y⟩:=XI ((Ym l).2 h).2.1 t o
  exact y
 ·rw [(Ym l).1 h] at o
  cases o
mutual
theorem ziX:∀x:Ex,dpE (Xr x)=zO x
 | .mk k s n kids line=>by rw [Xr,dpE,zO,zfv kids,Nat.add_comm]
theorem zfv:∀l:List Ex,dpL (ye l)=depthL l
 | []=>by rw [ye,dpL,depthL]
 | x::xs=>by rw [ye,dpL,depthL,ziX x,zfv xs]
end
mutual
theorem zif:∀x:Ex,(zcm (Xr x)).length=YW x
 | .mk k s n kids line=>by rw [Xr,zcm,YW,List.length_cons,zcs kids,Nat.add_comm]
theorem zcs:∀l:List Ex,(UZ (ye l)).length=yR l
 | []=>by rw [ye,UZ,yR];rfl
 | x::xs=>by rw [ye,UZ,yR,List.length_append,zif x,zcs xs]
end
mutual
theorem zgS:∀x:St,dpS (uT x)=Zo x
 | .mk k s es b c line=>by rw [uT,dpS,Zo,zfv es,U1 b,U1 c];omega
theorem U1:∀l:List St,zdZ (yF l)=depthSs l
 | []=>by rw [yF,zdZ,depthSs]
 | x::xs=>by rw [yF,zdZ,depthSs,zgS x,U1 xs]
end
mutual
theorem zfw:∀x:St,(zcn (uT x)).length=uo x
 | .mk k s es b c line=>by rw [uT,zcn,uo,List.length_cons,List.length_append,List.length_append,zcs es,uq b,uq c];omega
theorem uq:∀l:List St,(vy (yF l)).length=yP l
 | []=>by rw [yF,vy,yP];rfl
 | x::xs=>by rw [yF,vy,yP,List.length_append,zfw x,uq xs]
end
end Go.Proofs.YtpejpbbdgblbeaaGreatDoor
