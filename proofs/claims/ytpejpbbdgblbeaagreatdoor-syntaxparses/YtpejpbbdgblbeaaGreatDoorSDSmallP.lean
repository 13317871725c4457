import Derived.Test.YtpejpbbdgblbeaaGreatDoorMC36
import Derived.Test.YtpejpbbdgblbeaaGreatDoorMC38
import Derived.Test.YtpejpbbdgblbeaaGreatDoorMC29
import Derived.Test.YtpejpbbdgblbeaaGreatDoorMC49
namespace Go.Proofs.YtpejpbbdgblbeaaGreatDoor
open Go.RowKit Go.Shelf
theorem zdS {P:Tk→Prop} (f:Nat) :
  (∀ts x us,ZQ f ts=some (.ok (x,us))→(∀t∈ts,P t)→∀t∈us,P t)∧(∀ts x us,zU f ts=some (.ok (x,us))→(∀t∈ts,P t)→∀t∈us,P t)∧(∀pre ts x us,ZH f pre ts=some (.ok (x,us))→(∀t∈ts,P t)→∀t∈us,P t):=by
 induction f with
 | zero=>refine ⟨?_,?_,?_⟩ <;> intros <;> simp_all [ZQ,zU,ZH]
 | succ f ih =>
  obtain ⟨j1,j2,j3⟩:=ih;have px:=fun ts x us h hW=>(xu (P:=P) f).1 1 ts x us h hW
  refine ⟨fun ts x us h hW=>?_,fun ts x us h hW=>?_,fun pre ts x us h hW=>?_⟩
  ·rw [ZQ] at h
   split at h
   ·obtain ⟨_,_,h1,h⟩:=zb h
    obtain ⟨_,_,h2,h⟩:=zb h;obtain ⟨_,_,h3,h⟩:=zb h;obtain ⟨_,_,h4,h⟩:=zb h;obtain ⟨rfl,rfl⟩:=zt h;exact Zh h4 (px _ _ _ h3 (Zh h2 (yC h1 (zy hW))))
   split at h
   ·obtain ⟨_,_,h1,h⟩:=zb h
    obtain ⟨_,_,h2,h⟩:=zb h;have hB:=j2 _ _ _ h2 (px _ _ _ h1 (zy hW))
    split at h
    ·obtain ⟨_,_,h3,h⟩:=zb h
     obtain ⟨rfl,rfl⟩:=zt h;exact j2 _ _ _ h3 (zy hB)
    ·obtain ⟨rfl,rfl⟩:=zt h
     exact hB
   split at h
   ·obtain ⟨_,_,h1,h⟩:=zb h
    obtain ⟨_,_,h2,h⟩:=zb h;obtain ⟨rfl,rfl⟩:=zt h;exact j2 _ _ _ h2 (px _ _ _ h1 (zy hW))
   split at h
   ·split at h
    ·obtain ⟨rfl,rfl⟩:=zt h
     exact zy (zy hW)
    ·obtain ⟨_,_,h1,h⟩:=zb h
     obtain ⟨_,_,h2,h⟩:=zb h;obtain ⟨rfl,rfl⟩:=zt h;exact Zh h2 (px _ _ _ h1 (zy hW))
   ·obtain ⟨_,_,h1,h⟩:=zb h
    have hB:=px _ _ _ h1 hW
    split at h
    ·split at h
     ·obtain ⟨_,_,h2,h⟩:=zb h
      obtain ⟨_,_,h3,h⟩:=zb h;obtain ⟨rfl,rfl⟩:=zt h;exact Zh h3 (px _ _ _ h2 (zy hB))
     ·cases h
    ·obtain ⟨_,_,h2,h⟩:=zb h
     obtain ⟨rfl,rfl⟩:=zt h;exact Zh h2 hB
  ·rw [zU] at h
   obtain ⟨_,_,h1,h⟩:=zb h;exact j3 _ _ _ _ h (Zh h1 hW)
  ·rw [ZH] at h
   split at h
   ·obtain ⟨rfl,rfl⟩:=zt h
    exact zy hW
   ·obtain ⟨_,_,h1,h⟩:=zb h
    exact j3 _ _ _ _ h (j1 _ _ _ h1 hW)
theorem ug {k:Nat} {s:List UInt8} {es:List Ex} {b c:List St} {line:Nat} (hs:s.length≤100000000) (he:okL es=true) (hb:Vq b=true) (hc:Vq c=true):okS (.mk k s es b c line)=true:=by
 rw [okS];simp [hs,he,hb,hc]
theorem ze1 {l:List St} {x:St} (h:Vq l=true) (g:okS x=true):Vq (l++[x])=true:=by
 induction l with
 | nil=>simp [Vq,g]
 | cons y ys ih =>
  rw [Vq,Bool.and_eq_true] at h;rw [List.cons_append,Vq,h.1,ih h.2];rfl
theorem zdl (f:Nat) :
  (∀ts x us,ZQ f ts=some (.ok (x,us))→(∀t∈ts,UR t)→okS x=true)∧(∀ts x us,zU f ts=some (.ok (x,us))→(∀t∈ts,UR t)→Vq x=true)∧(∀pre ts x us,ZH f pre ts=some (.ok (x,us))→(∀t∈ts,UR t)→Vq pre=true→Vq x=true):=by
 induction f with
 | zero=>refine ⟨?_,?_,?_⟩ <;> intros <;> simp_all [ZQ,zU,ZH]
 | succ f ih =>
  obtain ⟨i1,i2,i3⟩:=ih;obtain ⟨j1,j2,j3⟩:=zdS (P:=UR) f;have px:=fun ts x us h hW=>(xu (P:=UR) f).1 1 ts x us h hW
  have ex:=fun ts x us h hW=>(zca f).1 1 ts x us h hW
  refine ⟨fun ts x us h hW=>?_,fun ts x us h hW=>?_,fun pre ts x us h hW hp=>?_⟩
  ·rw [ZQ] at h
   split at h
   ·obtain ⟨_,_,h1,h⟩:=zb h
    obtain ⟨_,_,h2,h⟩:=zb h;obtain ⟨_,_,h3,h⟩:=zb h;obtain ⟨_,_,h4,h⟩:=zb h;obtain ⟨rfl,rfl⟩:=zt h
    have:=uJ h1
    exact ug (by rw [this];exact (UR.hd (zy hW)).1) (XL (ex _ _ _ h3 (Zh h2 (yC h1 (zy hW))))) rfl rfl
   split at h
   ·obtain ⟨_,_,h1,h⟩:=zb h
    obtain ⟨_,_,h2,h⟩:=zb h;have hA:=px _ _ _ h1 (zy hW);have hB:=j2 _ _ _ h2 hA;have he:=XL (ex _ _ _ h1 (zy hW))
    split at h
    ·obtain ⟨_,_,h3,h⟩:=zb h
     obtain ⟨rfl,rfl⟩:=zt h;exact ug (by simp) he (i2 _ _ _ h2 hA) (i2 _ _ _ h3 (zy hB))
    ·obtain ⟨rfl,rfl⟩:=zt h
     exact ug (by simp) he (i2 _ _ _ h2 hA) rfl
   split at h
   ·obtain ⟨_,_,h1,h⟩:=zb h
    obtain ⟨_,_,h2,h⟩:=zb h;obtain ⟨rfl,rfl⟩:=zt h;exact ug (by simp) (XL (ex _ _ _ h1 (zy hW))) (i2 _ _ _ h2 (px _ _ _ h1 (zy hW))) rfl
   split at h
   ·split at h
    ·obtain ⟨rfl,rfl⟩:=zt h
     rfl
    ·obtain ⟨_,_,h1,h⟩:=zb h
     obtain ⟨_,_,h2,h⟩:=zb h;obtain ⟨rfl,rfl⟩:=zt h;exact ug (by simp) (XL (ex _ _ _ h1 (zy hW))) rfl rfl
   ·obtain ⟨_,_,h1,h⟩:=zb h
    have hB:=px _ _ _ h1 hW
    split at h
    ·split at h
     ·obtain ⟨_,_,h2,h⟩:=zb h
      obtain ⟨_,_,h3,h⟩:=zb h;obtain ⟨rfl,rfl⟩:=zt h;exact ug (by simp) (zaP (ex _ _ _ h1 hW) (ex _ _ _ h2 (zy hB))) rfl rfl
     ·cases h
    ·obtain ⟨_,_,h2,h⟩:=zb h
     obtain ⟨rfl,rfl⟩:=zt h;exact ug (by simp) (XL (ex _ _ _ h1 hW)) rfl rfl
  ·rw [zU] at h
   obtain ⟨_,_,h1,h⟩:=zb h;exact i3 _ _ _ _ h (Zh h1 hW) rfl
  ·rw [ZH] at h
   split at h
   ·obtain ⟨rfl,rfl⟩:=zt h
    exact hp
   ·obtain ⟨_,_,h1,h⟩:=zb h
    exact i3 _ _ _ _ h (j1 _ _ _ h1 hW) (ze1 hp (i1 _ _ _ h1 hW))
mutual
def Ui:St→Nat
 | .mk _ _ es b c _=>1+(YD es+(YC b+YC c))
def YC:List St→Nat
 | []=>0
 | x::xs=>Ui x+YC xs
end
theorem zdm (l:List St) (x:St):YC (l++[x])=YC l+Ui x:=by
 induction l with
 | nil=>simp [YC]
 | cons y ys ih=>simp [YC,ih,Nat.add_assoc]
theorem zgl (f:Nat) :
  (∀ts x us,ZQ f ts=some (.ok (x,us))→Ui x+us.length≤ts.length)∧(∀ts x us,zU f ts=some (.ok (x,us))→YC x+us.length≤ts.length)∧(∀pre ts x us,ZH f pre ts=some (.ok (x,us))→YC x+us.length≤YC pre+ts.length):=by
 induction f with
 | zero=>refine ⟨?_,?_,?_⟩ <;> intros <;> simp_all [ZQ,zU,ZH]
 | succ f ih =>
  obtain ⟨i1,i2,i3⟩:=ih;have ex:=fun ts x us h=>(zeA f).1 1 ts x us h
  refine ⟨fun ts x us h=>?_,fun ts x us h=>?_,fun pre ts x us h=>?_⟩
  ·rw [ZQ] at h
   split at h
   ·rename_i hc
    have l0:=Zq hc;obtain ⟨_,_,h1,h⟩:=zb h;obtain ⟨_,_,h2,h⟩:=zb h;obtain ⟨_,_,h3,h⟩:=zb h;obtain ⟨_,_,h4,h⟩:=zb h;obtain ⟨rfl,rfl⟩:=zt h;have a1:=yU h1;have a2:=z7 h2;have a3:=ex _ _ _ h3;have a4:=z7 h4;simp only [Ui,YD,YC];omega
   split at h
   ·rename_i hc
    have l0:=Zq hc;obtain ⟨_,_,h1,h⟩:=zb h;obtain ⟨_,vs,h2,h⟩:=zb h;have a1:=ex _ _ _ h1;have a2:=i2 _ _ _ h2
    split at h
    ·obtain ⟨_,_,h3,h⟩:=zb h
     obtain ⟨rfl,rfl⟩:=zt h;have a3:=i2 _ _ _ h3;have a4:=Zw vs;simp only [Ui,YD];omega
    ·obtain ⟨rfl,rfl⟩:=zt h
     simp only [Ui,YD,YC];omega
   split at h
   ·rename_i hc
    have l0:=Zq hc;obtain ⟨_,_,h1,h⟩:=zb h;obtain ⟨_,_,h2,h⟩:=zb h;obtain ⟨rfl,rfl⟩:=zt h;have a1:=ex _ _ _ h1;have a2:=i2 _ _ _ h2;simp only [Ui,YD,YC];omega
   split at h
   ·rename_i hc
    have l0:=Zq hc
    split at h
    ·obtain ⟨rfl,rfl⟩:=zt h
     have a4:=Zw ts.tail;simp only [Ui,YD,YC];omega
    ·obtain ⟨_,_,h1,h⟩:=zb h
     obtain ⟨_,_,h2,h⟩:=zb h;obtain ⟨rfl,rfl⟩:=zt h;have a1:=ex _ _ _ h1;have a2:=z7 h2;simp only [Ui,YD,YC];omega
   ·obtain ⟨_,vs,h1,h⟩:=zb h
    have a1:=ex _ _ _ h1
    split at h
    ·rename_i hc
     have l0:=Zq hc
     split at h
     ·obtain ⟨_,_,h2,h⟩:=zb h
      obtain ⟨_,_,h3,h⟩:=zb h;obtain ⟨rfl,rfl⟩:=zt h;have a2:=ex _ _ _ h2;have a3:=z7 h3;simp only [Ui,YD,YC];omega
     ·cases h
    ·obtain ⟨_,_,h2,h⟩:=zb h
     obtain ⟨rfl,rfl⟩:=zt h;have a2:=z7 h2;simp only [Ui,YD,YC];omega
  ·rw [zU] at h
   obtain ⟨_,_,h1,h⟩:=zb h;have a1:=z7 h1;have a2:=i3 _ _ _ _ h;simp only [YC] at a2;omega
  ·rw [ZH] at h
   split at h
   ·obtain ⟨rfl,rfl⟩:=zt h
    have a1:=Zw ts;omega
   ·obtain ⟨_,_,h1,h⟩:=zb h
    have a1:=i1 _ _ _ h1;have a2:=i3 _ _ _ _ h;rw [zdm] at a2;omega
theorem Vc {M:Nat}:∀(ts:List Tk) (k:Nat) (s:List UInt8) (us:List Tk),yF k ts=.ok (s,us)→(∀t∈ts,t.s.length≤M)→s.length≤2*k+2*ts.length+M
 | [],k,s,us,h,_=>by simp [yF] at h
 | t::ts,k,s,us,h,hM=>by
  rw [yF] at h
  split at h
  ·have:=Vc ts (k+1) s us h fun x hx=>hM x (List.mem_cons_of_mem _ hx)
   simp only [List.length_cons];omega
  ·split at h
   ·cases hc:yJ k ts with
    | error a=>rw [hc] at h;simp [XZ] at h
    | ok vs =>
     rw [hc] at h;simp only [XZ,Except.ok.injEq,Prod.mk.injEq] at h;obtain ⟨rfl,-⟩:=h
     have:=hM t (List.mem_cons_self ..)
     simp only [List.length_append,List.length_replicate,List.length_cons];omega
   ·cases h
theorem zdn {n:Nat}:∀{ts us:List Tk},yJ n ts=.ok us→us.length≤ts.length:=by
 induction n with
 | zero=>intro ts us h;cases h;exact Nat.le_refl _
 | succ n ih =>
  intro ts us h;rw [yJ] at h
  split at h
  ·exact Nat.le_trans (ih h) (Zw _)
  ·cases h
theorem zad:∀(ts:List Tk) (k:Nat) (s:List UInt8) (us:List Tk),yF k ts=.ok (s,us)→us.length≤ts.length
 | [],k,s,us,h=>by simp [yF] at h
 | t::ts,k,s,us,h=>by
  rw [yF] at h
  split at h
  ·have:=zad ts (k+1) s us h
   simp only [List.length_cons];omega
  ·split at h
   ·cases hc:yJ k ts with
    | error a=>rw [hc] at h;simp [XZ] at h
    | ok vs =>
     rw [hc] at h;simp only [XZ,Except.ok.injEq,Prod.mk.injEq] at h;obtain ⟨-,rfl⟩:=h
     have:=zdn hc
     simp only [List.length_cons];omega
   ·cases h
def Tk5 (t:Tk):Prop:=UR t∧t.s.length≤5000
theorem Tk5.hd {ts:List Tk} (h:∀t∈ts,Tk5 t):(zx ts).s.length≤5000:=by
 cases ts with
 | nil=>simp [zx]
 | cons t ts=>exact (h t (List.mem_cons_self ..)).2
theorem ze2 {l:List Pm} {p:Pm} (h:zaL l=true) (h1:p.1.length≤100000000) (h2:p.2.length≤100000000):zaL (l++[p])=true:=by
 unfold zaL at h ⊢
 rw [List.all_append,h]
 simp [h1,h2]
theorem VK:∀(f:Nat) (pre l:List Pm) (ts us:List Tk),Zm f pre ts=some (.ok (l,us))→(∀t∈ts,Tk5 t)→ts.length≤1000000→zaL pre=true→zaL l=true:=by
 intro f
 induction f with
 | zero=>intro pre l ts us h;simp [Zm] at h
 | succ f ih =>
  intro pre l ts us h hP hl hp;rw [Zm] at h
  unfold YE at h
  by_cases h1:(zx ts).k=1
  ·rw [if_pos h1] at h
   by_cases h2:zn (zx ts.tail) [58]=true
   ·rw [if_pos h2] at h
    have l1:=Zw ts;have l2:=Zw ts.tail;cases hs:yF 0 ts.tail.tail with
    | error a=>rw [hs] at h;simp at h
    | ok p =>
     obtain ⟨s,vs⟩:=p;rw [hs] at h;have hV:=uD _ _ _ _ hs (zy (zy hP));have hsl:=Vc (M:=5000) _ _ _ _ hs fun t ht=>(zy (zy hP) t ht).2
     have hn:=Tk5.hd hP;have hq:=ze2 (p:=((zx ts).s,s)) hp (by simp only;omega) (by simp only;omega)
     simp only at h
     split at h
     ·have l3:=(zad _ _ _ _ hs)
      have l4:=Zw vs;exact ih _ _ _ _ h (zy hV) (by omega) hq
     ·obtain ⟨rfl,rfl⟩:=zt h
      exact hq
   ·rw [if_neg h2] at h
    simp at h
  ·rw [if_neg h1] at h
   simp at h
theorem zcf {f:Nat} {ts us:List Tk} {l:List Pm} (h:Y9 f ts=some (.ok (l,us))) (hP:∀t∈ts,Tk5 t) (hl:ts.length≤1000000):zaL l=true:=by
 unfold Y9 at h
 obtain ⟨_,us1,h1,h⟩:=zb h;have hP1:=Zh h1 hP;have l1:=z7 h1
 split at h
 ·obtain ⟨rfl,rfl⟩:=zt h
  rfl
 ·obtain ⟨_,us2,h2,h⟩:=zb h
  obtain ⟨_,us3,h3,h⟩:=zb h;obtain ⟨rfl,rfl⟩:=zt h;exact VK _ _ _ _ _ h2 hP1 (by omega) rfl
theorem zdo {ts us:List Tk} {s:List UInt8} (h:vY ts=some (.ok (s,us))) (hP:∀t∈ts,Tk5 t) (hl:ts.length≤1000000):s.length≤100000000:=by
 unfold vY at h
 split at h
 ·have l1:=Zw ts
  have:=Vc (M:=5000) _ _ _ _ (Option.some.inj h) fun t ht=>(zy hP t ht).2
  omega
 ·obtain ⟨rfl,rfl⟩:=zt h
  simp
theorem zdT {s:List UInt8} {ts us:List Tk} (h:Yg ts=some (.ok (s,us))) (hP:∀t∈ts,Tk5 t):s.length≤100000000:=by
 rw [uJ h]
 have:=Tk5.hd hP
 omega
theorem Qy {f line:Nat} {ts us:List Tk} {x:Rc} (h:ZZ f line ts=some (.ok (x,us))) (hP:∀t∈ts,Tk5 t) (hl:ts.length≤1000000):zf3 x=true:=by
 unfold ZZ at h
 obtain ⟨_,_,h1,h⟩:=zb h;obtain ⟨_,_,h2,h⟩:=zb h;obtain ⟨_,_,h3,h⟩:=zb h;obtain ⟨_,_,h4,h⟩:=zb h;obtain ⟨rfl,rfl⟩:=zt h;have a1:=yU h1;have a2:=z7 h2
 unfold zf3
 rw [VK _ _ _ _ _ h3 (Zh h2 (yC h1 hP)) (by omega) rfl]
 simp [zdT h1 hP]
theorem zcg {f line:Nat} {ts us:List Tk} {x:Fc} (h:yX f line ts=some (.ok (x,us))) (hE:zj ts) (hP:∀t∈ts,Tk5 t) (hl:ts.length≤1000000):zf4 x=true:=by
 unfold yX at h
 obtain ⟨_,_,h1,h⟩:=zb h;obtain ⟨_,_,h2,h⟩:=zb h;obtain ⟨_,_,h3,h⟩:=zb h;obtain ⟨_,_,h4,h⟩:=zb h;obtain ⟨rfl,rfl⟩:=zt h;have a1:=yU h1;have hE1:=yM h1 hE;have a2:=Vj h2 hE1;have hP1:=yC h1 hP;have hP2:=uE h2 hP1;have hP3:=UO h3 hP2
 unfold zf4
 rw [zcf h2 hP1 (by omega),(zdl f).2.1 _ _ _ h4 fun t ht=>(hP3 t ht).1]
 simp [zdT h1 hP,zdo h3 hP2 (by omega)]
theorem ze3 {P:Tk→Prop} {f line:Nat} {ts us:List Tk} {x:Fc} (h:yX f line ts=some (.ok (x,us))) (hP:∀t∈ts,P t):∀t∈us,P t:=by
 unfold yX at h
 obtain ⟨_,_,h1,h⟩:=zb h;obtain ⟨_,_,h2,h⟩:=zb h;obtain ⟨_,_,h3,h⟩:=zb h;obtain ⟨_,_,h4,h⟩:=zb h;obtain ⟨rfl,rfl⟩:=zt h;exact (zdS f).2.1 _ _ _ h4 (UO h3 (uE h2 (yC h1 hP)))
def Vr:List Fc→Nat
 | []=>0
 | x::xs=>1+YC x.body+Vr xs
theorem ze4 (l:List Fc) (x:Fc):Vr (l++[x])=Vr l+(1+YC x.body):=by
 induction l with
 | nil=>simp [Vr]
 | cons y ys ih=>simp only [List.cons_append,Vr,ih];omega
theorem ze5 {f line:Nat} {ts us:List Tk} {x:Fc} (h:yX f line ts=some (.ok (x,us))) (hE:zj ts):YC x.body+us.length≤ts.length:=by
 unfold yX at h
 obtain ⟨_,_,h1,h⟩:=zb h;obtain ⟨_,_,h2,h⟩:=zb h;obtain ⟨_,_,h3,h⟩:=zb h;obtain ⟨_,_,h4,h⟩:=zb h;obtain ⟨rfl,rfl⟩:=zt h;have a1:=yU h1;have hE1:=yM h1 hE;have a2:=Vj h2 hE1;have a3:=zbN h3 (Xp h2 hE1);have a4:=(zgl f).2.1 _ _ _ h4;simp only;omega
theorem uh:∀(f:Nat) (rs:List Rc) (fs:List Fc) (ts:List Tk) (x:Pg) (us:List Tk),ZR f rs fs ts=some (.ok (x,us))→zj ts→(∀t∈ts,Tk5 t)→ts.length≤1000000→rs.all zf3=true→fs.all zf4=true →
  (zx us).k=0∧zaM x=true∧x.recs.length+Vr x.funs≤rs.length+Vr fs+ts.length
 | 0,_,_,_,_,_,h,_,_,_,_,_=>by simp [ZR] at h
 | f+1,rs,fs,ts,x,us,h,hE,hP,hl,hr,hf=>by
  rw [ZR] at h
  by_cases c0:(zx ts).k=0
  ·rw [if_pos c0] at h
   obtain ⟨rfl,rfl⟩:=zt h;refine ⟨c0,?_,by simp only;omega⟩
   unfold zaM
   rw [hr,hf];rfl
  rw [if_neg c0] at h
  by_cases c1:zn (zx ts) [114,101,99,111,114,100]=true
  ·rw [if_pos c1] at h
   have l1:=Zq c1;have hE1:=zT hE c1;obtain ⟨y,vs,h1,h2⟩:=zb h;have l2:=XE h1 hE1;obtain ⟨a,b,c⟩:=uh f _ _ _ _ _ h2 (xr h1 hE1) (qG h1 (zy hP)) (by omega) (by rw [List.all_append,hr];simp [Qy h1 (zy hP) (by omega)]) hf
   refine ⟨a,b,?_⟩;rw [List.length_append] at c;simp only [List.length_cons,List.length_nil] at c;omega
  rw [if_neg c1] at h
  by_cases c2:zn (zx ts) [102,110]=true
  ·rw [if_pos c2] at h
   have l1:=Zq c2;have hE1:=zT hE c2;obtain ⟨y,vs,h1,h2⟩:=zb h;have l2:=ze5 h1 hE1;obtain ⟨a,b,c⟩:=uh f _ _ _ _ _ h2 (Xq h1 hE1) (ze3 h1 (zy hP)) (by omega) hr (by rw [List.all_append,hf];simp [zcg h1 hE1 (zy hP) (by omega)])
   refine ⟨a,b,?_⟩;rw [ze4] at c;omega
  ·rw [if_neg c2] at h
   simp at h
theorem zhc (l:List UInt8):∀t∈(zC l).1,Tk5 t:=by
 intro t ht;refine ⟨(Uz l t ht).1,?_⟩
 by_cases h:(zC l).2.2=0
 ·obtain ⟨-,-,-,-,-,hs⟩:=ud ((XD l).2 h).2.1 t ht
  exact hs
 ·rw [(XD l).1 h] at ht
  cases ht
mutual
theorem ziT:∀x:Ex,dpE (exz x)=z6 x
 | .mk k s n kids line=>by rw [exz,dpE,z6,zgm kids,Nat.add_comm]
theorem zgm:∀l:List Ex,Vh (v8 l)=depthL l
 | []=>by rw [v8,Vh,depthL]
 | x::xs=>by rw [v8,Vh,depthL,ziT x,zgm xs]
end
mutual
theorem zid:∀x:Ex,(xT (exz x)).length=xN x
 | .mk k s n kids line=>by rw [exz,xT,xN,List.length_cons,zdp kids,Nat.add_comm]
theorem zdp:∀l:List Ex,(YX (v8 l)).length=YD l
 | []=>by rw [v8,YX,YD];rfl
 | x::xs=>by rw [v8,YX,YD,List.length_append,zid x,zdp xs]
end
mutual
theorem zhd:∀x:St,dpS (stz x)=ZW x
 | .mk k s es b c line=>by rw [stz,dpS,ZW,zgm es,Vd b,Vd c];omega
theorem Vd:∀l:List St,dpSL (V8 l)=depthSs l
 | []=>by rw [V8,dpSL,depthSs]
 | x::xs=>by rw [V8,dpSL,depthSs,zhd x,Vd xs]
end
mutual
theorem zgn:∀x:St,(zeZ (stz x)).length=Ui x
 | .mk k s es b c line=>by rw [stz,zeZ,Ui,List.length_cons,List.length_append,List.length_append,zdp es,Vo b,Vo c];omega
theorem Vo:∀l:List St,(ZX (V8 l)).length=YC l
 | []=>by rw [V8,ZX,YC];rfl
 | x::xs=>by rw [V8,ZX,YC,List.length_append,zgn x,Vo xs]
end
theorem zch:∀l:List Fc,(vq (l.map fcz)).length=Vr l
 | []=>rfl
 | x::xs=>by
  rw [List.map_cons,vq,Vr,List.length_append,zch xs,List.length_cons];show (ZX (V8 x.body)).length+1+_=_
  rw [Vo];omega
theorem zgo (x:Pg):(lnsP (pgz x)).length=x.recs.length+Vr x.funs:=by
 unfold lnsP pgz uf
 rw [List.length_append,List.length_map,List.length_map,zch]
end Go.Proofs.YtpejpbbdgblbeaaGreatDoor
