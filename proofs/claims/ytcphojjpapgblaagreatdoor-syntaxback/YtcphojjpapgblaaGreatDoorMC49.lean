import Derived.Test.YtcphojjpapgblaaGreatDoorMC42
import Derived.Test.YtcphojjpapgblaaGreatDoorMC41
import Derived.Test.YtcphojjpapgblaaGreatDoorMC27
import Derived.Test.YtcphojjpapgblaaGreatDoorMC47
import Derived.Test.YtcphojjpapgblaaGreatDoorMC37
import Derived.Test.YtcphojjpapgblaaGreatDoorMC33
import Derived.Test.YtcphojjpapgblaaGreatDoorMC28
namespace Go.Proofs.YtcphojjpapgblaaGreatDoor
open Go.RowKit Go.Shelf
theorem zdD {P:Tk→Prop} (f:Nat) :
  (∀ts x us,Zg f ts=some (.ok (x,us))→(∀t∈ts,P t)→∀t∈us,P t)∧(∀ts x us,zI f ts=some (.ok (x,us))→(∀t∈ts,P t)→∀t∈us,P t)∧(∀pre ts x us,Zh f pre ts=some (.ok (x,us))→(∀t∈ts,P t)→∀t∈us,P t):=by
 induction f with
 | zero=>refine ⟨?_,?_,?_⟩ <;> intros <;> simp_all [Zg,zI,Zh]
 | succ f ih =>
  obtain ⟨I,G,H⟩:=ih;have z:=fun ts x us h hW=>(qi (P:=P) f).1 1 ts x us h hW
  refine ⟨fun ts x us h hW=>?_,fun ts x us h hW=>?_,fun pre ts x us h hW=>?_⟩
  ·rw [Zg] at h
   split at h
   ·obtain ⟨_,_,o,h⟩:=za h
    obtain ⟨_,_,y,h⟩:=za h;obtain ⟨_,_,D,h⟩:=za h;obtain ⟨_,_,J,h⟩:=za h;obtain ⟨rfl,rfl⟩:=zq h;exact Zv J (z _ _ _ D (Zv y (Yi o (zz hW))))
   split at h
   ·obtain ⟨_,_,o,h⟩:=za h
    obtain ⟨_,_,y,h⟩:=za h;have A:=G _ _ _ y (z _ _ _ o (zz hW))
    split at h
    ·obtain ⟨_,_,D,h⟩:=za h
     obtain ⟨rfl,rfl⟩:=zq h;exact G _ _ _ D (zz A)
    ·obtain ⟨rfl,rfl⟩:=zq h
     exact A
   split at h
   ·obtain ⟨_,_,o,h⟩:=za h
    obtain ⟨_,_,y,h⟩:=za h;obtain ⟨rfl,rfl⟩:=zq h;exact G _ _ _ y (z _ _ _ o (zz hW))
   split at h
   ·split at h
    ·obtain ⟨rfl,rfl⟩:=zq h
     exact zz (zz hW)
    ·obtain ⟨_,_,o,h⟩:=za h
     obtain ⟨_,_,y,h⟩:=za h;obtain ⟨rfl,rfl⟩:=zq h;exact Zv y (z _ _ _ o (zz hW))
   ·obtain ⟨_,_,o,h⟩:=za h
    have A:=z _ _ _ o hW
    split at h
    ·split at h
     ·obtain ⟨_,_,y,h⟩:=za h
      obtain ⟨_,_,D,h⟩:=za h;obtain ⟨rfl,rfl⟩:=zq h;exact Zv D (z _ _ _ y (zz A))
     ·cases h
    ·obtain ⟨_,_,y,h⟩:=za h
     obtain ⟨rfl,rfl⟩:=zq h;exact Zv y A
  ·rw [zI] at h
   obtain ⟨_,_,o,h⟩:=za h;exact H _ _ _ _ h (Zv o hW)
  ·rw [Zh] at h
   split at h
   ·obtain ⟨rfl,rfl⟩:=zq h
    exact zz hW
   ·obtain ⟨_,_,o,h⟩:=za h
    exact H _ _ _ _ h (I _ _ _ o hW)
theorem Vz {k:Nat} {s:List UInt8} {es:List Ex} {b c:List St} {line:Nat} (hs:s.length≤100000000) (he:UU es=true) (hb:vK b=true) (hc:vK c=true):okS (.mk k s es b c line)=true:=by
 rw [okS];simp [hs,he,hb,hc]
theorem zeD {l:List St} {x:St} (h:vK l=true) (g:okS x=true):vK (l++[x])=true:=by
 induction l with
 | nil=>simp [vK,g]
 | cons y ys ih =>
  rw [vK,Bool.and_eq_true] at h;rw [List.cons_append,vK,h.1,ih h.2];rfl
theorem zcW (f:Nat) :
  (∀ts x us,Zg f ts=some (.ok (x,us))→(∀t∈ts,Uo t)→okS x=true)∧(∀ts x us,zI f ts=some (.ok (x,us))→(∀t∈ts,Uo t)→vK x=true)∧(∀pre ts x us,Zh f pre ts=some (.ok (x,us))→(∀t∈ts,Uo t)→vK pre=true→vK x=true):=by
 induction f with
 | zero=>refine ⟨?_,?_,?_⟩ <;> intros <;> simp_all [Zg,zI,Zh]
 | succ f ih =>
  obtain ⟨N,A,L⟩:=ih;obtain ⟨Q,O,T⟩:=zdD (P:=Uo) f;have G:=fun ts x us h hW=>(qi (P:=Uo) f).1 1 ts x us h hW
  have z:=fun ts x us h hW=>(uV f).1 1 ts x us h hW
  refine ⟨fun ts x us h hW=>?_,fun ts x us h hW=>?_,fun pre ts x us h hW hp=>?_⟩
  ·rw [Zg] at h
   split at h
   ·obtain ⟨_,_,o,h⟩:=za h
    obtain ⟨_,_,y,h⟩:=za h;obtain ⟨_,_,D,h⟩:=za h;obtain ⟨_,_,R,h⟩:=za h;obtain ⟨rfl,rfl⟩:=zq h
    have:=VW o
    exact Vz (by rw [this];exact (Uo.hd (zz hW)).1) (xT (z _ _ _ D (Zv y (Yi o (zz hW))))) rfl rfl
   split at h
   ·obtain ⟨_,_,o,h⟩:=za h
    obtain ⟨_,_,y,h⟩:=za h;have I:=G _ _ _ o (zz hW);have H:=O _ _ _ y I;have J:=xT (z _ _ _ o (zz hW))
    split at h
    ·obtain ⟨_,_,D,h⟩:=za h
     obtain ⟨rfl,rfl⟩:=zq h;exact Vz (by simp) J (A _ _ _ y I) (A _ _ _ D (zz H))
    ·obtain ⟨rfl,rfl⟩:=zq h
     exact Vz (by simp) J (A _ _ _ y I) rfl
   split at h
   ·obtain ⟨_,_,o,h⟩:=za h
    obtain ⟨_,_,y,h⟩:=za h;obtain ⟨rfl,rfl⟩:=zq h;exact Vz (by simp) (xT (z _ _ _ o (zz hW))) (A _ _ _ y (G _ _ _ o (zz hW))) rfl
   split at h
   ·split at h
    ·obtain ⟨rfl,rfl⟩:=zq h
     rfl
    ·obtain ⟨_,_,o,h⟩:=za h
     obtain ⟨_,_,y,h⟩:=za h;obtain ⟨rfl,rfl⟩:=zq h;exact Vz (by simp) (xT (z _ _ _ o (zz hW))) rfl rfl
   ·obtain ⟨_,_,o,h⟩:=za h
    have H:=G _ _ _ o hW
    split at h
    ·split at h
     ·obtain ⟨_,_,y,h⟩:=za h
      obtain ⟨_,_,D,h⟩:=za h;obtain ⟨rfl,rfl⟩:=zq h;exact Vz (by simp) (zar (z _ _ _ o hW) (z _ _ _ y (zz H))) rfl rfl
     ·cases h
    ·obtain ⟨_,_,y,h⟩:=za h
     obtain ⟨rfl,rfl⟩:=zq h;exact Vz (by simp) (xT (z _ _ _ o hW)) rfl rfl
  ·rw [zI] at h
   obtain ⟨_,_,o,h⟩:=za h;exact L _ _ _ _ h (Zv o hW) rfl
  ·rw [Zh] at h
   split at h
   ·obtain ⟨rfl,rfl⟩:=zq h
    exact hp
   ·obtain ⟨_,_,o,h⟩:=za h
    exact L _ _ _ _ h (Q _ _ _ o hW) (zeD hp (N _ _ _ o hW))
mutual
def uy:St→Nat
 | .mk _ _ es b c _=>1+(yR es+(yQ b+yQ c))
def yQ:List St→Nat
 | []=>0
 | x::xs=>uy x+yQ xs
end
theorem zcX (l:List St) (x:St):yQ (l++[x])=yQ l+uy x:=by
 induction l with
 | nil=>simp [yQ]
 | cons y ys ih=>simp [yQ,ih,Nat.add_assoc]
theorem zgf (f:Nat) :
  (∀ts x us,Zg f ts=some (.ok (x,us))→uy x+us.length≤ts.length)∧(∀ts x us,zI f ts=some (.ok (x,us))→yQ x+us.length≤ts.length)∧(∀pre ts x us,Zh f pre ts=some (.ok (x,us))→yQ x+us.length≤yQ pre+ts.length):=by
 induction f with
 | zero=>refine ⟨?_,?_,?_⟩ <;> intros <;> simp_all [Zg,zI,Zh]
 | succ f ih =>
  obtain ⟨R,J,O⟩:=ih;have G:=fun ts x us h=>(zef f).1 1 ts x us h
  refine ⟨fun ts x us h=>?_,fun ts x us h=>?_,fun pre ts x us h=>?_⟩
  ·rw [Zg] at h
   split at h
   ·rename_i z
    have I:=Zc z;obtain ⟨_,_,o,h⟩:=za h;obtain ⟨_,_,y,h⟩:=za h;obtain ⟨_,_,H,h⟩:=za h;obtain ⟨_,_,T,h⟩:=za h;obtain ⟨rfl,rfl⟩:=zq h;have D:=yG o;have A:=z7 y;have Q:=G _ _ _ H;have L:=z7 T;simp only [uy,yR,yQ];omega
   split at h
   ·rename_i z
    have I:=Zc z;obtain ⟨_,_,o,h⟩:=za h;obtain ⟨_,N,y,h⟩:=za h;have D:=G _ _ _ o;have A:=J _ _ _ y
    split at h
    ·obtain ⟨_,_,H,h⟩:=za h
     obtain ⟨rfl,rfl⟩:=zq h;have Q:=J _ _ _ H;have L:=xS N;simp only [uy,yR];omega
    ·obtain ⟨rfl,rfl⟩:=zq h
     simp only [uy,yR,yQ];omega
   split at h
   ·rename_i z
    have I:=Zc z;obtain ⟨_,_,o,h⟩:=za h;obtain ⟨_,_,y,h⟩:=za h;obtain ⟨rfl,rfl⟩:=zq h;have D:=G _ _ _ o;have A:=J _ _ _ y;simp only [uy,yR,yQ];omega
   split at h
   ·rename_i z
    have I:=Zc z
    split at h
    ·obtain ⟨rfl,rfl⟩:=zq h
     have L:=xS ts.tail;simp only [uy,yR,yQ];omega
    ·obtain ⟨_,_,o,h⟩:=za h
     obtain ⟨_,_,y,h⟩:=za h;obtain ⟨rfl,rfl⟩:=zq h;have D:=G _ _ _ o;have A:=z7 y;simp only [uy,yR,yQ];omega
   ·obtain ⟨_,N,o,h⟩:=za h
    have D:=G _ _ _ o
    split at h
    ·rename_i z
     have I:=Zc z
     split at h
     ·obtain ⟨_,_,y,h⟩:=za h
      obtain ⟨_,_,H,h⟩:=za h;obtain ⟨rfl,rfl⟩:=zq h;have A:=G _ _ _ y;have Q:=z7 H;simp only [uy,yR,yQ];omega
     ·cases h
    ·obtain ⟨_,_,y,h⟩:=za h
     obtain ⟨rfl,rfl⟩:=zq h;have A:=z7 y;simp only [uy,yR,yQ];omega
  ·rw [zI] at h
   obtain ⟨_,_,o,h⟩:=za h;have D:=z7 o;have A:=O _ _ _ _ h;simp only [yQ] at A;omega
  ·rw [Zh] at h
   split at h
   ·obtain ⟨rfl,rfl⟩:=zq h
    have D:=xS ts;omega
   ·obtain ⟨_,_,o,h⟩:=za h
    have D:=R _ _ _ o;have A:=O _ _ _ _ h;rw [zcX] at A;omega
theorem vx {M:Nat}:∀(ts:List Tk) (k:Nat) (s:List UInt8) (us:List Tk),ZK k ts=.ok (s,us)→(∀t∈ts,t.s.length≤M)→s.length≤2*k+2*ts.length+M
 | [],k,s,us,h,_=>by simp [ZK] at h
 | t::ts,k,s,us,h,hM=>by
  rw [ZK] at h
  split at h
  ·have:=vx ts (k+1) s us h fun x hx=>hM x (List.mem_cons_of_mem _ hx)
   simp only [List.length_cons];omega
  ·split at h
   ·cases hc:ZT k ts with
    | error a=>rw [hc] at h;simp [XV] at h
    | ok vs =>
     rw [hc] at h;simp only [XV,Except.ok.injEq,Prod.mk.injEq] at h;obtain ⟨rfl,-⟩:=h
     have:=hM t (List.mem_cons_self ..)
     simp only [List.length_append,List.length_replicate,List.length_cons];omega
   ·cases h
theorem zcY {n:Nat}:∀{ts o:List Tk},ZT n ts=.ok o→o.length≤ts.length:=by
 induction n with
 | zero=>intro ts o h;cases h;exact Nat.le_refl _
 | succ n ih =>
  intro ts o h;rw [ZT] at h
  split at h
  ·exact Nat.le_trans (ih h) (xS _)
  ·cases h
theorem QI:∀(ts:List Tk) (k:Nat) (s:List UInt8) (us:List Tk),ZK k ts=.ok (s,us)→us.length≤ts.length
 | [],k,s,us,h=>by simp [ZK] at h
 | t::ts,k,s,us,h=>by
  rw [ZK] at h
  split at h
  ·have:=QI ts (k+1) s us h
   simp only [List.length_cons];omega
  ·split at h
   ·cases hc:ZT k ts with
    | error a=>rw [hc] at h;simp [XV] at h
    | ok vs =>
     rw [hc] at h;simp only [XV,Except.ok.injEq,Prod.mk.injEq] at h;obtain ⟨-,rfl⟩:=h
     have:=zcY hc
     simp only [List.length_cons];omega
   ·cases h
def Tk5 (t:Tk):Prop:=Uo t∧t.s.length≤5000
theorem Tk5.hd {ts:List Tk} (h:∀t∈ts,Tk5 t):(zu ts).s.length≤5000:=by
 cases ts with
 | nil=>simp [zu]
 | cons t ts=>exact (h t (List.mem_cons_self ..)).2
theorem zeE {l:List Pm} {p:Pm} (h:zaa l=true) (h1:p.1.length≤100000000) (h2:p.2.length≤100000000):zaa (l++[p])=true:=by
 unfold zaa at h ⊢
 rw [List.all_append,h]
 simp [h1,h2]
theorem vZ:∀(f:Nat) (o l:List Pm) (ts y:List Tk),zP f o ts=some (.ok (l,y))→(∀t∈ts,Tk5 t)→ts.length≤1000000→zaa o=true→zaa l=true:=by
 intro f
 induction f with
 | zero=>intro o l ts y h;simp [zP] at h
 | succ f ih =>
  intro o l ts y h z L D;rw [zP] at h
  unfold Z9 at h
  by_cases h1:(zu ts).k=1
  ·rw [if_pos h1] at h
   by_cases h2:zm (zu ts.tail) [58]=true
   ·rw [if_pos h2] at h
    have O:=xS ts;have Q:=xS ts.tail;cases hs:ZK 0 ts.tail.tail with
    | error a=>rw [hs] at h;simp at h
    | ok p =>
     obtain ⟨s,G⟩:=p;rw [hs] at h;have H:=VU _ _ _ _ hs (zz (zz z));have I:=vx (M:=5000) _ _ _ _ hs fun t ht=>(zz (zz z) t ht).2
     have R:=Tk5.hd z;have A:=zeE (p:=((zu ts).s,s)) D (by simp only;omega) (by simp only;omega)
     simp only at h
     split at h
     ·have N:=(QI _ _ _ _ hs)
      have J:=xS G;exact ih _ _ _ _ h (zz H) (by omega) A
     ·obtain ⟨rfl,rfl⟩:=zq h
      exact A
   ·rw [if_neg h2] at h
    simp at h
  ·rw [if_neg h1] at h
   simp at h
theorem zbP {f:Nat} {ts us:List Tk} {l:List Pm} (h:yw f ts=some (.ok (l,us))) (hP:∀t∈ts,Tk5 t) (hl:ts.length≤1000000):zaa l=true:=by
 unfold yw at h
 obtain ⟨_,z,y,h⟩:=za h;have o:=Zv y hP;have H:=z7 y
 split at h
 ·obtain ⟨rfl,rfl⟩:=zq h
  rfl
 ·obtain ⟨_,D,A,h⟩:=za h
  obtain ⟨_,G,I,h⟩:=za h;obtain ⟨rfl,rfl⟩:=zq h;exact vZ _ _ _ _ _ A o (by omega) rfl
theorem zcZ {ts us:List Tk} {s:List UInt8} (h:Xk ts=some (.ok (s,us))) (hP:∀t∈ts,Tk5 t) (hl:ts.length≤1000000):s.length≤100000000:=by
 unfold Xk at h
 split at h
 ·have o:=xS ts
  have:=vx (M:=5000) _ _ _ _ (Option.some.inj h) fun t ht=>(zz hP t ht).2
  omega
 ·obtain ⟨rfl,rfl⟩:=zq h
  simp
theorem zdE {s:List UInt8} {ts us:List Tk} (h:Z6 ts=some (.ok (s,us))) (hP:∀t∈ts,Tk5 t):s.length≤100000000:=by
 rw [VW h]
 have:=Tk5.hd hP
 omega
theorem qT {f line:Nat} {ts us:List Tk} {x:Rc} (h:Zq f line ts=some (.ok (x,us))) (hP:∀t∈ts,Tk5 t) (hl:ts.length≤1000000):zfu x=true:=by
 unfold Zq at h
 obtain ⟨_,_,o,h⟩:=za h;obtain ⟨_,_,y,h⟩:=za h;obtain ⟨_,_,z,h⟩:=za h;obtain ⟨_,_,D,h⟩:=za h;obtain ⟨rfl,rfl⟩:=zq h;have G:=yG o;have A:=z7 y
 unfold zfu
 rw [vZ _ _ _ _ _ z (Zv y (Yi o hP)) (by omega) rfl]
 simp [zdE o hP]
theorem zbQ {f line:Nat} {ts us:List Tk} {x:Fc} (h:ZZ f line ts=some (.ok (x,us))) (hE:zi ts) (hP:∀t∈ts,Tk5 t) (hl:ts.length≤1000000):zfv x=true:=by
 unfold ZZ at h
 obtain ⟨_,_,z,h⟩:=za h;obtain ⟨_,_,A,h⟩:=za h;obtain ⟨_,_,H,h⟩:=za h;obtain ⟨_,_,I,h⟩:=za h;obtain ⟨rfl,rfl⟩:=zq h;have L:=yG z;have D:=ZM z hE;have J:=ue A D;have y:=Yi z hP;have o:=zbK A y;have G:=zdA H o
 unfold zfv
 rw [zbP A y (by omega),(zcW f).2.1 _ _ _ I fun t ht=>(G t ht).1]
 simp [zdE z hP,zcZ H o (by omega)]
theorem zeF {P:Tk→Prop} {f line:Nat} {ts us:List Tk} {x:Fc} (h:ZZ f line ts=some (.ok (x,us))) (hP:∀t∈ts,P t):∀t∈us,P t:=by
 unfold ZZ at h
 obtain ⟨_,_,y,h⟩:=za h;obtain ⟨_,_,o,h⟩:=za h;obtain ⟨_,_,A,h⟩:=za h;obtain ⟨_,_,z,h⟩:=za h;obtain ⟨rfl,rfl⟩:=zq h;exact (zdD f).2.1 _ _ _ z (zdA A (zbK o (Yi y hP)))
def qq:List Fc→Nat
 | []=>0
 | x::xs=>1+yQ x.body+qq xs
theorem zeG (l:List Fc) (x:Fc):qq (l++[x])=qq l+(1+yQ x.body):=by
 induction l with
 | nil=>simp [qq]
 | cons y ys ih=>simp only [List.cons_append,qq,ih];omega
theorem zeH {f line:Nat} {ts us:List Tk} {x:Fc} (h:ZZ f line ts=some (.ok (x,us))) (hE:zi ts):yQ x.body+us.length≤ts.length:=by
 unfold ZZ at h
 obtain ⟨_,_,z,h⟩:=za h;obtain ⟨_,_,y,h⟩:=za h;obtain ⟨_,_,D,h⟩:=za h;obtain ⟨_,_,A,h⟩:=za h;obtain ⟨rfl,rfl⟩:=zq h;have J:=yG z;have o:=ZM z hE;have I:=ue y o;have G:=zbl D (xx y o);have H:=(zgf f).2.1 _ _ _ A;simp only;omega
theorem VA:∀(f:Nat) (rs:List Rc) (fs:List Fc) (ts:List Tk) (x:Pg) (us:List Tk),Zp f rs fs ts=some (.ok (x,us))→zi ts→(∀t∈ts,Tk5 t)→ts.length≤1000000→rs.all zfu=true→fs.all zfv=true →
  (zu us).k=0∧zcy x=true∧x.recs.length+qq x.funs≤rs.length+qq fs+ts.length
 | 0,_,_,_,_,_,h,_,_,_,_,_=>by simp [Zp] at h
 | f+1,rs,fs,ts,x,us,h,hE,hP,hl,hr,hf=>by
  rw [Zp] at h
  by_cases c0:(zu ts).k=0
  ·rw [if_pos c0] at h
   obtain ⟨rfl,rfl⟩:=zq h;refine ⟨c0,?_,by simp only;omega⟩
   unfold zcy
   rw [hr,hf];rfl
  rw [if_neg c0] at h
  by_cases c1:zm (zu ts) [114,101,99,111,114,100]=true
  ·rw [if_pos c1] at h
   have D:=Zc c1;have o:=zA hE c1;obtain ⟨y,H,z,A⟩:=za h;have G:=X6 z o;obtain ⟨a,b,c⟩:=VA f _ _ _ _ _ A (Yx z o) (zcO z (zz hP)) (by omega) (by rw [List.all_append,hr];simp [qT z (zz hP) (by omega)]) hf
   refine ⟨a,b,?_⟩;rw [List.length_append] at c;simp only [List.length_cons,List.length_nil] at c;omega
  rw [if_neg c1] at h
  by_cases c2:zm (zu ts) [102,110]=true
  ·rw [if_pos c2] at h
   have D:=Zc c2;have o:=zA hE c2;obtain ⟨y,H,z,A⟩:=za h;have G:=zeH z o;obtain ⟨a,b,c⟩:=VA f _ _ _ _ _ A (xy z o) (zeF z (zz hP)) (by omega) hr (by rw [List.all_append,hf];simp [zbQ z o (zz hP) (by omega)])
   refine ⟨a,b,?_⟩;rw [zeG] at c;omega
  ·rw [if_neg c2] at h
   simp at h
theorem zhx (l:List UInt8):∀t∈(zW l).1,Tk5 t:=by
 intro t o;refine ⟨(uW l t o).1,?_⟩
 by_cases h:(zW l).2.2=0
 ·obtain ⟨-,-,-,-,-,y⟩:=Vy ((xR l).2 h).2.1 t o
  exact y
 ·rw [(xR l).1 h] at o
  cases o
mutual
theorem zjq:∀x:Ex,qw (XO x)=zN x
 | .mk k s n kids line=>by rw [XO,qw,zN,zgg kids,Nat.add_comm]
theorem zgg:∀l:List Ex,dpL (yC l)=depthL l
 | []=>by rw [yC,dpL,depthL]
 | x::xs=>by rw [yC,dpL,depthL,zjq x,zgg xs]
end
mutual
theorem ziC:∀x:Ex,(zcU (XO x)).length=YY x
 | .mk k s n kids line=>by rw [XO,zcU,YY,List.length_cons,zc0 kids,Nat.add_comm]
theorem zc0:∀l:List Ex,(qp (yC l)).length=yR l
 | []=>by rw [yC,qp,yR];rfl
 | x::xs=>by rw [yC,qp,yR,List.length_append,ziC x,zc0 xs]
end
mutual
theorem zhy:∀x:St,dpS (uP x)=Zn x
 | .mk k s es b c line=>by rw [uP,dpS,Zn,zgg es,qr b,qr c];omega
theorem qr:∀l:List St,zeC (yY l)=depthSs l
 | []=>by rw [yY,zeC,depthSs]
 | x::xs=>by rw [yY,zeC,depthSs,zhy x,qr xs]
end
mutual
theorem zgh:∀x:St,(zcV (uP x)).length=uy x
 | .mk k s es b c line=>by rw [uP,zcV,uy,List.length_cons,List.length_append,List.length_append,zc0 es,uz b,uz c];omega
theorem uz:∀l:List St,(vw (yY l)).length=yQ l
 | []=>by rw [yY,vw,yQ];rfl
 | x::xs=>by rw [yY,vw,yQ,List.length_append,zgh x,uz xs]
end
mutual
theorem QJ (fl:Nat→Nat):∀x:Ex,zN (Xb fl x)=zN x
 | .mk k s n kids line=>by rw [Xb,zN,zN,uA fl kids]
theorem uA (fl:Nat→Nat):∀l:List Ex,depthL (YD fl l)=depthL l
 | []=>rfl
 | x::xs=>by rw [YD,depthL,depthL,QJ fl x,uA fl xs]
end
mutual
theorem zeI (fl:Nat→Nat):∀x:St,Zn (V1 fl x)=Zn x
 | .mk k s es b c line=>by rw [V1,Zn,Zn,uA fl es,XH fl b,XH fl c]
theorem XH (fl:Nat→Nat):∀l:List St,depthSs (yg fl l)=depthSs l
 | []=>rfl
 | x::xs=>by rw [yg,depthSs,depthSs,zeI fl x,XH fl xs]
end
theorem qs (fl:Nat→Nat):∀l:List Fc,depthFs (l.map (zfC fl))=depthFs l
 | []=>rfl
 | x::xs=>by
  rw [List.map_cons,depthFs,depthFs,qs fl xs];show max (depthSs (yg fl x.body)) _=_
  rw [XH]
mutual
theorem ziD (fl:Nat→Nat):∀x:Ex,smE (XO x) (XO (Xb fl x))
 | .mk k s n kids line=>by rw [Xb,XO,XO,smE];exact ⟨rfl,rfl,rfl,zc1 fl kids⟩
theorem zc1 (fl:Nat→Nat):∀l:List Ex,qR (yC l) (yC (YD fl l))
 | []=>by rw [YD,yC,qR];trivial
 | x::xs=>by rw [YD,yC,yC,qR];exact ⟨ziD fl x,zc1 fl xs⟩
end
mutual
theorem ziE (fl:Nat→Nat):∀x:St,smS (uP x) (uP (V1 fl x))
 | .mk k s es b c line=>by rw [V1,uP,uP,smS];exact ⟨rfl,rfl,zc1 fl es,zat fl b,zat fl c⟩
theorem zat (fl:Nat→Nat):∀l:List St,xJ (yY l) (yY (yg fl l))
 | []=>by rw [yg,yY,xJ];trivial
 | x::xs=>by rw [yg,yY,yY,xJ];exact ⟨ziE fl x,zat fl xs⟩
end
mutual
theorem zhz (n:Nat):∀x:Ex,zcU (XO (Xb (·+n) x))=(zcU (XO x)).map (·+(n:Int))
 | .mk k s m kids line=>by rw [Xb,XO,XO,zcU,zcU,zau n kids,List.map_cons];simp
theorem zau (n:Nat):∀l:List Ex,qp (yC (YD (·+n) l))=(qp (yC l)).map (·+(n:Int))
 | []=>by rw [YD,yC,qp];rfl
 | x::xs=>by rw [YD,yC,yC,qp,qp,zhz n x,zau n xs,List.map_append]
end
mutual
theorem zhA (n:Nat):∀x:St,zcV (uP (V1 (·+n) x))=(zcV (uP x)).map (·+(n:Int))
 | .mk k s es b c line=>by rw [V1,uP,uP,zcV,zcV,zau n es,qt n b,qt n c,List.map_cons,List.map_append,List.map_append];simp
theorem qt (n:Nat):∀l:List St,vw (yY (yg (·+n) l))=(vw (yY l)).map (·+(n:Int))
 | []=>by rw [yg,yY,vw];rfl
 | x::xs=>by rw [yg,yY,yY,vw,vw,zhA n x,qt n xs,List.map_append]
end
mutual
theorem ziF (fl:Nat→Nat):∀x:Ex,VB (Xb fl x)=VB x
 | .mk k s n kids line=>by rw [Xb,VB,VB,zgi fl kids]
theorem zgi (fl:Nat→Nat):∀l:List Ex,UU (YD fl l)=UU l
 | []=>rfl
 | x::xs=>by rw [YD,UU,UU,ziF fl x,zgi fl xs]
end
mutual
theorem ziG (fl:Nat→Nat):∀x:St,hiS (V1 fl x)=hiS x
 | .mk k s es b c line=>by rw [V1,hiS,hiS,zav fl b,zav fl c]
theorem zav (fl:Nat→Nat):∀l:List St,u7 (yg fl l)=u7 l
 | []=>rfl
 | x::xs=>by rw [yg,u7,u7,ziG fl x,zav fl xs]
end
theorem zaw {l:List UInt8} {x:Pg} {a e:Nat} (h:yM l x a e):zcy x=true∧x.recs.length+qq x.funs≤5000∧depthFs x.funs≤24:=by
 unfold yM at h
 have A:zcy xf=true∧xf.recs.length+qq xf.funs≤5000∧depthFs xf.funs≤24:=⟨rfl,by simp [qq],by simp [depthFs]⟩
 by_cases hc:(zW l).2.2≠0
 ·rw [if_pos hc] at h
  rw [h.1];exact A
 ·rw [if_neg hc] at h
  have J:=xB l (by simpa using hc)
  obtain ⟨f,r,H,o⟩:=h;rcases r with b | ⟨y,G⟩
  ·simp only [yx] at o
   rw [o.1];exact A
  ·obtain ⟨L,z,D⟩:=VA f [] [] _ y G H J (zhx l) (by have:=vD l;omega) rfl rfl
   have N:=vD l;have I:yx (.ok (y,G))=.ok y:=by unfold yx;simp only [if_pos L]
   simp only [I] at o
   by_cases h24:24<depthFs y.funs
   ·rw [if_pos h24] at o
    rw [o.1];exact A
   ·rw [if_neg h24] at o
    rw [o.1];simp only [List.length_nil,qq] at D;exact ⟨z,by omega,by omega⟩
end Go.Proofs.YtcphojjpapgblaaGreatDoor
