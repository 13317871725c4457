import Derived.Test.YtpejpbbdgblbeaaGreatDoorMC44
import Derived.Test.YtpejpbbdgblbeaaGreatDoorMC31
import Derived.Test.YtpejpbbdgblbeaaGreatDoorMC29
import Derived.Test.YtpejpbbdgblbeaaGreatDoorMC50
import Derived.Test.YtpejpbbdgblbeaaGreatDoorMC37
import Derived.Test.YtpejpbbdgblbeaaGreatDoorMC38
import Derived.Test.YtpejpbbdgblbeaaGreatDoorMC32
namespace Go.Proofs.YtpejpbbdgblbeaaGreatDoor
open Go.RowKit Go.Shelf
theorem zab {P:Tk→Prop} (f:Nat) :
  (∀ts x us,Ze f ts=some (.ok (x,us))→(∀t∈ts,P t)→∀t∈us,P t)∧(∀ts x us,zH f ts=some (.ok (x,us))→(∀t∈ts,P t)→∀t∈us,P t)∧(∀pre ts x us,Zd f pre ts=some (.ok (x,us))→(∀t∈ts,P t)→∀t∈us,P t):=by
 induction f with
 | zero=>refine ⟨?_,?_,?_⟩ <;> intros <;> simp_all [Ze,zH,Zd]
 | succ f ih =>
  obtain ⟨J,G,H⟩:=ih;have z:=fun ts x us h hW=>(vu (P:=P) f).1 1 ts x us h hW
  refine ⟨fun ts x us h hW=>?_,fun ts x us h hW=>?_,fun pre ts x us h hW=>?_⟩
  ·rw [Ze] at h
   split at h
   ·obtain ⟨_,_,o,h⟩:=za h
    obtain ⟨_,_,y,h⟩:=za h;obtain ⟨_,_,D,h⟩:=za h;obtain ⟨_,_,I,h⟩:=za h;obtain ⟨rfl,rfl⟩:=zk h;exact Zb I (z _ _ _ D (Zb y (Z9 o (zt hW))))
   split at h
   ·obtain ⟨_,_,o,h⟩:=za h
    obtain ⟨_,_,y,h⟩:=za h;have A:=G _ _ _ y (z _ _ _ o (zt hW))
    split at h
    ·obtain ⟨_,_,D,h⟩:=za h
     obtain ⟨rfl,rfl⟩:=zk h;exact G _ _ _ D (zt A)
    ·obtain ⟨rfl,rfl⟩:=zk h
     exact A
   split at h
   ·obtain ⟨_,_,o,h⟩:=za h
    obtain ⟨_,_,y,h⟩:=za h;obtain ⟨rfl,rfl⟩:=zk h;exact G _ _ _ y (z _ _ _ o (zt hW))
   split at h
   ·split at h
    ·obtain ⟨rfl,rfl⟩:=zk h
     exact zt (zt hW)
    ·obtain ⟨_,_,o,h⟩:=za h
     obtain ⟨_,_,y,h⟩:=za h;obtain ⟨rfl,rfl⟩:=zk h;exact Zb y (z _ _ _ o (zt hW))
   ·obtain ⟨_,_,o,h⟩:=za h
    have A:=z _ _ _ o hW
    split at h
    ·split at h
     ·obtain ⟨_,_,y,h⟩:=za h
      obtain ⟨_,_,D,h⟩:=za h;obtain ⟨rfl,rfl⟩:=zk h;exact Zb D (z _ _ _ y (zt A))
     ·cases h
    ·obtain ⟨_,_,y,h⟩:=za h
     obtain ⟨rfl,rfl⟩:=zk h;exact Zb y A
  ·rw [zH] at h
   obtain ⟨_,_,o,h⟩:=za h;exact H _ _ _ _ h (Zb o hW)
  ·rw [Zd] at h
   split at h
   ·obtain ⟨rfl,rfl⟩:=zk h
    exact zt hW
   ·obtain ⟨_,_,o,h⟩:=za h
    exact H _ _ _ _ h (J _ _ _ o hW)
theorem Vv {k:Nat} {s:List UInt8} {es:List Ex} {b c:List St} {line:Nat} (hs:s.length≤100000000) (he:UU es=true) (hb:vO b=true) (hc:vO c=true):okS (.mk k s es b c line)=true:=by
 rw [okS];simp [hs,he,hb,hc]
theorem zeb {l:List St} {x:St} (h:vO l=true) (g:okS x=true):vO (l++[x])=true:=by
 induction l with
 | nil=>simp [vO,g]
 | cons y ys ih =>
  rw [vO,Bool.and_eq_true] at h;rw [List.cons_append,vO,h.1,ih h.2];rfl
theorem zcu (f:Nat) :
  (∀ts x us,Ze f ts=some (.ok (x,us))→(∀t∈ts,Ue t)→okS x=true)∧(∀ts x us,zH f ts=some (.ok (x,us))→(∀t∈ts,Ue t)→vO x=true)∧(∀pre ts x us,Zd f pre ts=some (.ok (x,us))→(∀t∈ts,Ue t)→vO pre=true→vO x=true):=by
 induction f with
 | zero=>refine ⟨?_,?_,?_⟩ <;> intros <;> simp_all [Ze,zH,Zd]
 | succ f ih =>
  obtain ⟨Q,D,J⟩:=ih;obtain ⟨N,O,T⟩:=zab (P:=Ue) f;have I:=fun ts x us h hW=>(vu (P:=Ue) f).1 1 ts x us h hW
  have z:=fun ts x us h hW=>(zbc f).1 1 ts x us h hW
  refine ⟨fun ts x us h hW=>?_,fun ts x us h hW=>?_,fun pre ts x us h hW hp=>?_⟩
  ·rw [Ze] at h
   split at h
   ·obtain ⟨_,_,o,h⟩:=za h
    obtain ⟨_,_,y,h⟩:=za h;obtain ⟨_,_,A,h⟩:=za h;obtain ⟨_,_,R,h⟩:=za h;obtain ⟨rfl,rfl⟩:=zk h
    have:=vx o
    exact Vv (by rw [this];exact (Ue.hd (zt hW)).1) (xS (z _ _ _ A (Zb y (Z9 o (zt hW))))) rfl rfl
   split at h
   ·obtain ⟨_,_,o,h⟩:=za h
    obtain ⟨_,_,y,h⟩:=za h;have G:=I _ _ _ o (zt hW);have H:=O _ _ _ y G;have L:=xS (z _ _ _ o (zt hW))
    split at h
    ·obtain ⟨_,_,A,h⟩:=za h
     obtain ⟨rfl,rfl⟩:=zk h;exact Vv (by simp) L (D _ _ _ y G) (D _ _ _ A (zt H))
    ·obtain ⟨rfl,rfl⟩:=zk h
     exact Vv (by simp) L (D _ _ _ y G) rfl
   split at h
   ·obtain ⟨_,_,o,h⟩:=za h
    obtain ⟨_,_,y,h⟩:=za h;obtain ⟨rfl,rfl⟩:=zk h;exact Vv (by simp) (xS (z _ _ _ o (zt hW))) (D _ _ _ y (I _ _ _ o (zt hW))) rfl
   split at h
   ·split at h
    ·obtain ⟨rfl,rfl⟩:=zk h
     rfl
    ·obtain ⟨_,_,o,h⟩:=za h
     obtain ⟨_,_,y,h⟩:=za h;obtain ⟨rfl,rfl⟩:=zk h;exact Vv (by simp) (xS (z _ _ _ o (zt hW))) rfl rfl
   ·obtain ⟨_,_,o,h⟩:=za h
    have H:=I _ _ _ o hW
    split at h
    ·split at h
     ·obtain ⟨_,_,y,h⟩:=za h
      obtain ⟨_,_,A,h⟩:=za h;obtain ⟨rfl,rfl⟩:=zk h;exact Vv (by simp) (Q3 (z _ _ _ o hW) (z _ _ _ y (zt H))) rfl rfl
     ·cases h
    ·obtain ⟨_,_,y,h⟩:=za h
     obtain ⟨rfl,rfl⟩:=zk h;exact Vv (by simp) (xS (z _ _ _ o hW)) rfl rfl
  ·rw [zH] at h
   obtain ⟨_,_,o,h⟩:=za h;exact J _ _ _ _ h (Zb o hW) rfl
  ·rw [Zd] at h
   split at h
   ·obtain ⟨rfl,rfl⟩:=zk h
    exact hp
   ·obtain ⟨_,_,o,h⟩:=za h
    exact J _ _ _ _ h (N _ _ _ o hW) (zeb hp (Q _ _ _ o hW))
mutual
def ut:St→Nat
 | .mk _ _ es b c _=>1+(yR es+(yP b+yP c))
def yP:List St→Nat
 | []=>0
 | x::xs=>ut x+yP xs
end
theorem zcv (l:List St) (x:St):yP (l++[x])=yP l+ut x:=by
 induction l with
 | nil=>simp [yP]
 | cons y ys ih=>simp [yP,ih,Nat.add_assoc]
theorem zfN (f:Nat) :
  (∀ts x us,Ze f ts=some (.ok (x,us))→ut x+us.length≤ts.length)∧(∀ts x us,zH f ts=some (.ok (x,us))→yP x+us.length≤ts.length)∧(∀pre ts x us,Zd f pre ts=some (.ok (x,us))→yP x+us.length≤yP pre+ts.length):=by
 induction f with
 | zero=>refine ⟨?_,?_,?_⟩ <;> intros <;> simp_all [Ze,zH,Zd]
 | succ f ih =>
  obtain ⟨T,J,L⟩:=ih;have G:=fun ts x us h=>(zdU f).1 1 ts x us h
  refine ⟨fun ts x us h=>?_,fun ts x us h=>?_,fun pre ts x us h=>?_⟩
  ·rw [Ze] at h
   split at h
   ·rename_i A
    have I:=Zf A;obtain ⟨_,_,o,h⟩:=za h;obtain ⟨_,_,y,h⟩:=za h;obtain ⟨_,_,H,h⟩:=za h;obtain ⟨_,_,R,h⟩:=za h;obtain ⟨rfl,rfl⟩:=zk h;have D:=yH o;have z:=z7 y;have Q:=G _ _ _ H;have O:=z7 R;simp only [ut,yR,yP];omega
   split at h
   ·rename_i A
    have I:=Zf A;obtain ⟨_,_,o,h⟩:=za h;obtain ⟨_,N,y,h⟩:=za h;have D:=G _ _ _ o;have z:=J _ _ _ y
    split at h
    ·obtain ⟨_,_,H,h⟩:=za h
     obtain ⟨rfl,rfl⟩:=zk h;have Q:=J _ _ _ H;have O:=xR N;simp only [ut,yR];omega
    ·obtain ⟨rfl,rfl⟩:=zk h
     simp only [ut,yR,yP];omega
   split at h
   ·rename_i A
    have I:=Zf A;obtain ⟨_,_,o,h⟩:=za h;obtain ⟨_,_,y,h⟩:=za h;obtain ⟨rfl,rfl⟩:=zk h;have D:=G _ _ _ o;have z:=J _ _ _ y;simp only [ut,yR,yP];omega
   split at h
   ·rename_i A
    have I:=Zf A
    split at h
    ·obtain ⟨rfl,rfl⟩:=zk h
     have O:=xR ts.tail;simp only [ut,yR,yP];omega
    ·obtain ⟨_,_,o,h⟩:=za h
     obtain ⟨_,_,y,h⟩:=za h;obtain ⟨rfl,rfl⟩:=zk h;have D:=G _ _ _ o;have z:=z7 y;simp only [ut,yR,yP];omega
   ·obtain ⟨_,N,o,h⟩:=za h
    have D:=G _ _ _ o
    split at h
    ·rename_i A
     have I:=Zf A
     split at h
     ·obtain ⟨_,_,y,h⟩:=za h
      obtain ⟨_,_,H,h⟩:=za h;obtain ⟨rfl,rfl⟩:=zk h;have z:=G _ _ _ y;have Q:=z7 H;simp only [ut,yR,yP];omega
     ·cases h
    ·obtain ⟨_,_,y,h⟩:=za h
     obtain ⟨rfl,rfl⟩:=zk h;have z:=z7 y;simp only [ut,yR,yP];omega
  ·rw [zH] at h
   obtain ⟨_,_,o,h⟩:=za h;have D:=z7 o;have z:=L _ _ _ _ h;simp only [yP] at z;omega
  ·rw [Zd] at h
   split at h
   ·obtain ⟨rfl,rfl⟩:=zk h
    have D:=xR ts;omega
   ·obtain ⟨_,_,o,h⟩:=za h
    have D:=T _ _ _ o;have z:=L _ _ _ _ h;rw [zcv] at z;omega
theorem vD {M:Nat}:∀(ts:List Tk) (k:Nat) (s:List UInt8) (us:List Tk),ZB k ts=.ok (s,us)→(∀t∈ts,t.s.length≤M)→s.length≤2*k+2*ts.length+M
 | [],k,s,us,h,_=>by simp [ZB] at h
 | t::ts,k,s,us,h,hM=>by
  rw [ZB] at h
  split at h
  ·have:=vD ts (k+1) s us h fun x hx=>hM x (List.mem_cons_of_mem _ hx)
   simp only [List.length_cons];omega
  ·split at h
   ·cases hc:ZS k ts with
    | error a=>rw [hc] at h;simp [Xg] at h
    | ok vs =>
     rw [hc] at h;simp only [Xg,Except.ok.injEq,Prod.mk.injEq] at h;obtain ⟨rfl,-⟩:=h
     have:=hM t (List.mem_cons_self ..)
     simp only [List.length_append,List.length_replicate,List.length_cons];omega
   ·cases h
theorem zcw {n:Nat}:∀{ts o:List Tk},ZS n ts=.ok o→o.length≤ts.length:=by
 induction n with
 | zero=>intro ts o h;cases h;exact Nat.le_refl _
 | succ n ih =>
  intro ts o h;rw [ZS] at h
  split at h
  ·exact Nat.le_trans (ih h) (xR _)
  ·cases h
theorem Qr:∀(ts:List Tk) (k:Nat) (s:List UInt8) (us:List Tk),ZB k ts=.ok (s,us)→us.length≤ts.length
 | [],k,s,us,h=>by simp [ZB] at h
 | t::ts,k,s,us,h=>by
  rw [ZB] at h
  split at h
  ·have:=Qr ts (k+1) s us h
   simp only [List.length_cons];omega
  ·split at h
   ·cases hc:ZS k ts with
    | error a=>rw [hc] at h;simp [Xg] at h
    | ok vs =>
     rw [hc] at h;simp only [Xg,Except.ok.injEq,Prod.mk.injEq] at h;obtain ⟨-,rfl⟩:=h
     have:=zcw hc
     simp only [List.length_cons];omega
   ·cases h
def Tk5 (t:Tk):Prop:=Ue t∧t.s.length≤5000
theorem Tk5.hd {ts:List Tk} (h:∀t∈ts,Tk5 t):(zv ts).s.length≤5000:=by
 cases ts with
 | nil=>simp [zv]
 | cons t ts=>exact (h t (List.mem_cons_self ..)).2
theorem zec {l:List Pm} {p:Pm} (h:Q2 l=true) (h1:p.1.length≤100000000) (h2:p.2.length≤100000000):Q2 (l++[p])=true:=by
 unfold Q2 at h ⊢
 rw [List.all_append,h]
 simp [h1,h2]
theorem vZ:∀(f:Nat) (o l:List Pm) (ts y:List Tk),zN f o ts=some (.ok (l,y))→(∀t∈ts,Tk5 t)→ts.length≤1000000→Q2 o=true→Q2 l=true:=by
 intro f
 induction f with
 | zero=>intro o l ts y h;simp [zN] at h
 | succ f ih =>
  intro o l ts y h z Q H;rw [zN] at h
  unfold Z8 at h
  by_cases h1:(zv ts).k=1
  ·rw [if_pos h1] at h
   by_cases h2:zm (zv ts.tail) [58]=true
   ·rw [if_pos h2] at h
    have J:=xR ts;have R:=xR ts.tail;cases hs:ZB 0 ts.tail.tail with
    | error a=>rw [hs] at h;simp at h
    | ok p =>
     obtain ⟨s,G⟩:=p;rw [hs] at h;have D:=vv _ _ _ _ hs (zt (zt z));have I:=vD (M:=5000) _ _ _ _ hs fun t ht=>(zt (zt z) t ht).2
     have O:=Tk5.hd z;have A:=zec (p:=((zv ts).s,s)) H (by simp only;omega) (by simp only;omega)
     simp only at h
     split at h
     ·have L:=(Qr _ _ _ _ hs)
      have N:=xR G;exact ih _ _ _ _ h (zt D) (by omega) A
     ·obtain ⟨rfl,rfl⟩:=zk h
      exact A
   ·rw [if_neg h2] at h
    simp at h
  ·rw [if_neg h1] at h
   simp at h
theorem zbq {f:Nat} {ts us:List Tk} {l:List Pm} (h:yo f ts=some (.ok (l,us))) (hP:∀t∈ts,Tk5 t) (hl:ts.length≤1000000):Q2 l=true:=by
 unfold yo at h
 obtain ⟨_,A,y,h⟩:=za h;have o:=Zb y hP;have H:=z7 y
 split at h
 ·obtain ⟨rfl,rfl⟩:=zk h
  rfl
 ·obtain ⟨_,G,z,h⟩:=za h
  obtain ⟨_,D,I,h⟩:=za h;obtain ⟨rfl,rfl⟩:=zk h;exact vZ _ _ _ _ _ z o (by omega) rfl
theorem zcx {ts us:List Tk} {s:List UInt8} (h:xK ts=some (.ok (s,us))) (hP:∀t∈ts,Tk5 t) (hl:ts.length≤1000000):s.length≤100000000:=by
 unfold xK at h
 split at h
 ·have o:=xR ts
  have:=vD (M:=5000) _ _ _ _ (Option.some.inj h) fun t ht=>(zt hP t ht).2
  omega
 ·obtain ⟨rfl,rfl⟩:=zk h
  simp
theorem zdd {s:List UInt8} {ts us:List Tk} (h:Z3 ts=some (.ok (s,us))) (hP:∀t∈ts,Tk5 t):s.length≤100000000:=by
 rw [vx h]
 have:=Tk5.hd hP
 omega
theorem qG {f line:Nat} {ts us:List Tk} {x:Rc} (h:Zl f line ts=some (.ok (x,us))) (hP:∀t∈ts,Tk5 t) (hl:ts.length≤1000000):zfq x=true:=by
 unfold Zl at h
 obtain ⟨_,_,o,h⟩:=za h;obtain ⟨_,_,y,h⟩:=za h;obtain ⟨_,_,z,h⟩:=za h;obtain ⟨_,_,A,h⟩:=za h;obtain ⟨rfl,rfl⟩:=zk h;have D:=yH o;have G:=z7 y
 unfold zfq
 rw [vZ _ _ _ _ _ z (Zb y (Z9 o hP)) (by omega) rfl]
 simp [zdd o hP]
theorem zbr {f line:Nat} {ts us:List Tk} {x:Fc} (h:ZX f line ts=some (.ok (x,us))) (hE:zi ts) (hP:∀t∈ts,Tk5 t) (hl:ts.length≤1000000):zfr x=true:=by
 unfold ZX at h
 obtain ⟨_,_,z,h⟩:=za h;obtain ⟨_,_,A,h⟩:=za h;obtain ⟨_,_,H,h⟩:=za h;obtain ⟨_,_,I,h⟩:=za h;obtain ⟨rfl,rfl⟩:=zk h;have J:=yH z;have G:=ZM z hE;have L:=ug A G;have y:=Z9 z hP;have o:=UQ A y;have D:=QY H o
 unfold zfr
 rw [zbq A y (by omega),(zcu f).2.1 _ _ _ I fun t ht=>(D t ht).1]
 simp [zdd z hP,zcx H o (by omega)]
theorem Qs {P:Tk→Prop} {f line:Nat} {ts us:List Tk} {x:Fc} (h:ZX f line ts=some (.ok (x,us))) (hP:∀t∈ts,P t):∀t∈us,P t:=by
 unfold ZX at h
 obtain ⟨_,_,A,h⟩:=za h;obtain ⟨_,_,o,h⟩:=za h;obtain ⟨_,_,y,h⟩:=za h;obtain ⟨_,_,z,h⟩:=za h;obtain ⟨rfl,rfl⟩:=zk h;exact (zab f).2.1 _ _ _ z (QY y (UQ o (Z9 A hP)))
def U8:List Fc→Nat
 | []=>0
 | x::xs=>1+yP x.body+U8 xs
theorem zed (l:List Fc) (x:Fc):U8 (l++[x])=U8 l+(1+yP x.body):=by
 induction l with
 | nil=>simp [U8]
 | cons y ys ih=>simp only [List.cons_append,U8,ih];omega
theorem zee {f line:Nat} {ts us:List Tk} {x:Fc} (h:ZX f line ts=some (.ok (x,us))) (hE:zi ts):yP x.body+us.length≤ts.length:=by
 unfold ZX at h
 obtain ⟨_,_,z,h⟩:=za h;obtain ⟨_,_,y,h⟩:=za h;obtain ⟨_,_,A,h⟩:=za h;obtain ⟨_,_,D,h⟩:=za h;obtain ⟨rfl,rfl⟩:=zk h;have G:=yH z;have o:=ZM z hE;have H:=ug y o;have J:=za8 A (xy y o);have I:=(zfN f).2.1 _ _ _ D;simp only;omega
theorem Vw:∀(f:Nat) (rs:List Rc) (fs:List Fc) (ts:List Tk) (x:Pg) (us:List Tk),Zm f rs fs ts=some (.ok (x,us))→zi ts→(∀t∈ts,Tk5 t)→ts.length≤1000000→rs.all zfq=true→fs.all zfr=true →
  (zv us).k=0∧zcl x=true∧x.recs.length+U8 x.funs≤rs.length+U8 fs+ts.length
 | 0,_,_,_,_,_,h,_,_,_,_,_=>by simp [Zm] at h
 | f+1,rs,fs,ts,x,us,h,hE,hP,hl,hr,hf=>by
  rw [Zm] at h
  by_cases c0:(zv ts).k=0
  ·rw [if_pos c0] at h
   obtain ⟨rfl,rfl⟩:=zk h;refine ⟨c0,?_,by simp only;omega⟩
   unfold zcl
   rw [hr,hf];rfl
  rw [if_neg c0] at h
  by_cases c1:zm (zv ts) [114,101,99,111,114,100]=true
  ·rw [if_pos c1] at h
   have D:=Zf c1;have o:=zD hE c1;obtain ⟨y,H,z,A⟩:=za h;have G:=vh z o;obtain ⟨a,b,c⟩:=Vw f _ _ _ _ _ A (Yy z o) (UR z (zt hP)) (by omega) (by rw [List.all_append,hr];simp [qG z (zt hP) (by omega)]) hf
   refine ⟨a,b,?_⟩;rw [List.length_append] at c;simp only [List.length_cons,List.length_nil] at c;omega
  rw [if_neg c1] at h
  by_cases c2:zm (zv ts) [102,110]=true
  ·rw [if_pos c2] at h
   have D:=Zf c2;have o:=zD hE c2;obtain ⟨y,H,z,A⟩:=za h;have G:=zee z o;obtain ⟨a,b,c⟩:=Vw f _ _ _ _ _ A (xz z o) (Qs z (zt hP)) (by omega) hr (by rw [List.all_append,hf];simp [zbr z o (zt hP) (by omega)])
   refine ⟨a,b,?_⟩;rw [zed] at c;omega
  ·rw [if_neg c2] at h
   simp at h
theorem zhc (l:List UInt8):∀t∈(zW l).1,Tk5 t:=by
 intro t o;refine ⟨(zbd l t o).1,?_⟩
 by_cases h:(zW l).2.2=0
 ·obtain ⟨-,-,-,-,-,y⟩:=XI ((Ym l).2 h).2.1 t o
  exact y
 ·rw [(Ym l).1 h] at o
  cases o
mutual
theorem zi2:∀x:Ex,dpE (Xr x)=zO x
 | .mk k s n kids line=>by rw [Xr,dpE,zO,zfO kids,Nat.add_comm]
theorem zfO:∀l:List Ex,dpL (ye l)=depthL l
 | []=>by rw [ye,dpL,depthL]
 | x::xs=>by rw [ye,dpL,depthL,zi2 x,zfO xs]
end
mutual
theorem zio:∀x:Ex,(zcm (Xr x)).length=YW x
 | .mk k s n kids line=>by rw [Xr,zcm,YW,List.length_cons,zcy kids,Nat.add_comm]
theorem zcy:∀l:List Ex,(UY (ye l)).length=yR l
 | []=>by rw [ye,UY,yR];rfl
 | x::xs=>by rw [ye,UY,yR,List.length_append,zio x,zcy xs]
end
mutual
theorem zhd:∀x:St,dpS (uS x)=Zo x
 | .mk k s es b c line=>by rw [uS,dpS,Zo,zfO es,U9 b,U9 c];omega
theorem U9:∀l:List St,zdZ (yF l)=depthSs l
 | []=>by rw [yF,zdZ,depthSs]
 | x::xs=>by rw [yF,zdZ,depthSs,zhd x,U9 xs]
end
mutual
theorem zfP:∀x:St,(zcn (uS x)).length=ut x
 | .mk k s es b c line=>by rw [uS,zcn,ut,List.length_cons,List.length_append,List.length_append,zcy es,uu b,uu c];omega
theorem uu:∀l:List St,(vy (yF l)).length=yP l
 | []=>by rw [yF,vy,yP];rfl
 | x::xs=>by rw [yF,vy,yP,List.length_append,zfP x,uu xs]
end
mutual
theorem zef (fl:Nat→Nat):∀x:Ex,zO (Xs fl x)=zO x
 | .mk k s n kids line=>by rw [Xs,zO,zO,uv fl kids]
theorem uv (fl:Nat→Nat):∀l:List Ex,depthL (YZ fl l)=depthL l
 | []=>rfl
 | x::xs=>by rw [YZ,depthL,depthL,zef fl x,uv fl xs]
end
mutual
theorem zeg (fl:Nat→Nat):∀x:St,Zo (uU fl x)=Zo x
 | .mk k s es b c line=>by rw [uU,Zo,Zo,uv fl es,XM fl b,XM fl c]
theorem XM (fl:Nat→Nat):∀l:List St,depthSs (yA fl l)=depthSs l
 | []=>rfl
 | x::xs=>by rw [yA,depthSs,depthSs,zeg fl x,XM fl xs]
end
theorem Vx (fl:Nat→Nat):∀l:List Fc,depthFs (l.map (zfu fl))=depthFs l
 | []=>rfl
 | x::xs=>by
  rw [List.map_cons,depthFs,depthFs,Vx fl xs];show max (depthSs (yA fl x.body)) _=_
  rw [XM]
mutual
theorem zip (fl:Nat→Nat):∀x:Ex,smE (Xr x) (Xr (Xs fl x))
 | .mk k s n kids line=>by rw [Xs,Xr,Xr,smE];exact ⟨rfl,rfl,rfl,zcz fl kids⟩
theorem zcz (fl:Nat→Nat):∀l:List Ex,YN (ye l) (ye (YZ fl l))
 | []=>by rw [YZ,ye,YN];trivial
 | x::xs=>by rw [YZ,ye,ye,YN];exact ⟨zip fl x,zcz fl xs⟩
end
mutual
theorem ziq (fl:Nat→Nat):∀x:St,smS (uS x) (uS (uU fl x))
 | .mk k s es b c line=>by rw [uU,uS,uS,smS];exact ⟨rfl,rfl,zcz fl es,zac fl b,zac fl c⟩
theorem zac (fl:Nat→Nat):∀l:List St,Y1 (yF l) (yF (yA fl l))
 | []=>by rw [yA,yF,Y1];trivial
 | x::xs=>by rw [yA,yF,yF,Y1];exact ⟨ziq fl x,zac fl xs⟩
end
mutual
theorem zhe (n:Nat):∀x:Ex,zcm (Xr (Xs (·+n) x))=(zcm (Xr x)).map (·+(n:Int))
 | .mk k s m kids line=>by rw [Xs,Xr,Xr,zcm,zcm,zad n kids,List.map_cons];simp
theorem zad (n:Nat):∀l:List Ex,UY (ye (YZ (·+n) l))=(UY (ye l)).map (·+(n:Int))
 | []=>by rw [YZ,ye,UY];rfl
 | x::xs=>by rw [YZ,ye,ye,UY,UY,zhe n x,zad n xs,List.map_append]
end
mutual
theorem zhf (n:Nat):∀x:St,zcn (uS (uU (·+n) x))=(zcn (uS x)).map (·+(n:Int))
 | .mk k s es b c line=>by rw [uU,uS,uS,zcn,zcn,zad n es,qd n b,qd n c,List.map_cons,List.map_append,List.map_append];simp
theorem qd (n:Nat):∀l:List St,vy (yF (yA (·+n) l))=(vy (yF l)).map (·+(n:Int))
 | []=>by rw [yA,yF,vy];rfl
 | x::xs=>by rw [yA,yF,yF,vy,vy,zhf n x,qd n xs,List.map_append]
end
mutual
theorem zir (fl:Nat→Nat):∀x:Ex,VY (Xs fl x)=VY x
 | .mk k s n kids line=>by rw [Xs,VY,VY,zfQ fl kids]
theorem zfQ (fl:Nat→Nat):∀l:List Ex,UU (YZ fl l)=UU l
 | []=>rfl
 | x::xs=>by rw [YZ,UU,UU,zir fl x,zfQ fl xs]
end
mutual
theorem zis (fl:Nat→Nat):∀x:St,hiS (uU fl x)=hiS x
 | .mk k s es b c line=>by rw [uU,hiS,hiS,Ug fl b,Ug fl c]
theorem Ug (fl:Nat→Nat):∀l:List St,uT (yA fl l)=uT l
 | []=>rfl
 | x::xs=>by rw [yA,uT,uT,zis fl x,Ug fl xs]
end
theorem zde (fl:Nat→Nat) (x:Pg):xM (qE fl x)=xM x:=by
 unfold xM qE
 simp only [List.map_map]
 congr 1
 apply List.map_congr_left
 intro y _;exact Ug fl y.body
theorem xi {l:List UInt8} {x:Pg} {a e:Nat} (h:Z2 l x a e):zcl x=true∧x.recs.length+U8 x.funs≤5000∧depthFs x.funs≤24:=by
 unfold Z2 at h
 have z:zcl YA=true∧YA.recs.length+U8 YA.funs≤5000∧depthFs YA.funs≤24:=⟨rfl,by simp [U8],by simp [depthFs]⟩
 by_cases hc:(zW l).2.2≠0
 ·rw [if_pos hc] at h
  rw [h.1];exact z
 ·rw [if_neg hc] at h
  have H:=XG l (by simpa using hc)
  obtain ⟨f,r,I,o⟩:=h;rcases r with b | ⟨y,G⟩
  ·simp only [yi] at o
   rw [o.1];exact z
  ·obtain ⟨L,D,A⟩:=Vw f [] [] _ y G I H (zhc l) (by have:=vL l;omega) rfl rfl
   have N:=vL l;have J:yi (.ok (y,G))=.ok y:=by unfold yi;simp only [if_pos L]
   simp only [J] at o
   by_cases h24:24<depthFs y.funs
   ·rw [if_pos h24] at o
    rw [o.1];exact z
   ·rw [if_neg h24] at o
    rw [o.1];simp only [List.length_nil,U8] at A;exact ⟨D,by omega,by omega⟩
end Go.Proofs.YtpejpbbdgblbeaaGreatDoor
