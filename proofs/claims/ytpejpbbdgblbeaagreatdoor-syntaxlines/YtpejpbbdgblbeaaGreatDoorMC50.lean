import Derived.Test.YtpejpbbdgblbeaaGreatDoorMC37
import Derived.Test.YtpejpbbdgblbeaaGreatDoorMC40
import Derived.Test.YtpejpbbdgblbeaaGreatDoorMC29
import Derived.Test.YtpejpbbdgblbeaaGreatDoorMC49
import Derived.Test.YtpejpbbdgblbeaaGreatDoorMC31
import Derived.Test.YtpejpbbdgblbeaaGreatDoorMC47
import Derived.Test.YtpejpbbdgblbeaaGreatDoorMC38
namespace Go.Proofs.YtpejpbbdgblbeaaGreatDoor
open Go.RowKit Go.Shelf
theorem zbO {P:Tk→Prop} (f:Nat) :
  (∀ts x us,Zw f ts=some (.ok (x,us))→(∀t∈ts,P t)→∀t∈us,P t)∧(∀ts x us,zO f ts=some (.ok (x,us))→(∀t∈ts,P t)→∀t∈us,P t)∧(∀pre ts x us,Zn f pre ts=some (.ok (x,us))→(∀t∈ts,P t)→∀t∈us,P t):=by
 induction f with
 | zero=>refine ⟨?_,?_,?_⟩ <;> intros <;> simp_all [Zw,zO,Zn]
 | succ f ih =>
  obtain ⟨I,D,G⟩:=ih;have y:=fun ts x us h hW=>(Ue (P:=P) f).1 1 ts x us h hW
  refine ⟨fun ts x us h hW=>?_,fun ts x us h hW=>?_,fun pre ts x us h hW=>?_⟩
  ·rw [Zw] at h
   split at h
   ·obtain ⟨_,_,o,h⟩:=za h
    obtain ⟨_,_,s,h⟩:=za h;obtain ⟨_,_,A,h⟩:=za h;obtain ⟨_,_,H,h⟩:=za h;obtain ⟨rfl,rfl⟩:=zq h;exact Zr H (y _ _ _ A (Zr s (yZ o (zx hW))))
   split at h
   ·obtain ⟨_,_,o,h⟩:=za h
    obtain ⟨_,_,s,h⟩:=za h;have z:=D _ _ _ s (y _ _ _ o (zx hW))
    split at h
    ·obtain ⟨_,_,A,h⟩:=za h
     obtain ⟨rfl,rfl⟩:=zq h;exact D _ _ _ A (zx z)
    ·obtain ⟨rfl,rfl⟩:=zq h
     exact z
   split at h
   ·obtain ⟨_,_,o,h⟩:=za h
    obtain ⟨_,_,s,h⟩:=za h;obtain ⟨rfl,rfl⟩:=zq h;exact D _ _ _ s (y _ _ _ o (zx hW))
   split at h
   ·split at h
    ·obtain ⟨rfl,rfl⟩:=zq h
     exact zx (zx hW)
    ·obtain ⟨_,_,o,h⟩:=za h
     obtain ⟨_,_,s,h⟩:=za h;obtain ⟨rfl,rfl⟩:=zq h;exact Zr s (y _ _ _ o (zx hW))
   ·obtain ⟨_,_,o,h⟩:=za h
    have z:=y _ _ _ o hW
    split at h
    ·split at h
     ·obtain ⟨_,_,s,h⟩:=za h
      obtain ⟨_,_,A,h⟩:=za h;obtain ⟨rfl,rfl⟩:=zq h;exact Zr A (y _ _ _ s (zx z))
     ·cases h
    ·obtain ⟨_,_,s,h⟩:=za h
     obtain ⟨rfl,rfl⟩:=zq h;exact Zr s z
  ·rw [zO] at h
   obtain ⟨_,_,o,h⟩:=za h;exact G _ _ _ _ h (Zr o hW)
  ·rw [Zn] at h
   split at h
   ·obtain ⟨rfl,rfl⟩:=zq h
    exact zx hW
   ·obtain ⟨_,_,o,h⟩:=za h
    exact G _ _ _ _ h (I _ _ _ o hW)
theorem vQ {k:Nat} {s:List UInt8} {es:List Ex} {b c:List St} {line:Nat} (hs:s.length≤100000000) (he:uW es=true) (hb:XW b=true) (hc:XW c=true):okS (.mk k s es b c line)=true:=by
 rw [okS];simp [hs,he,hb,hc]
theorem zcO {l:List St} {x:St} (h:XW l=true) (g:okS x=true):XW (l++[x])=true:=by
 induction l with
 | nil=>simp [XW,g]
 | cons y ys ih =>
  rw [XW,Bool.and_eq_true] at h;rw [List.cons_append,XW,h.1,ih h.2];rfl
theorem zbl (f:Nat) :
  (∀ts x us,Zw f ts=some (.ok (x,us))→(∀t∈ts,un t)→okS x=true)∧(∀ts x us,zO f ts=some (.ok (x,us))→(∀t∈ts,un t)→XW x=true)∧(∀pre ts x us,Zn f pre ts=some (.ok (x,us))→(∀t∈ts,un t)→XW pre=true→XW x=true):=by
 induction f with
 | zero=>refine ⟨?_,?_,?_⟩ <;> intros <;> simp_all [Zw,zO,Zn]
 | succ f ih =>
  obtain ⟨L,z,J⟩:=ih;obtain ⟨N,K,Q⟩:=zbO (P:=un) f;have H:=fun ts x us h hW=>(Ue (P:=un) f).1 1 ts x us h hW
  have y:=fun ts x us h hW=>(zac f).1 1 ts x us h hW
  refine ⟨fun ts x us h hW=>?_,fun ts x us h hW=>?_,fun pre ts x us h hW hp=>?_⟩
  ·rw [Zw] at h
   split at h
   ·obtain ⟨_,_,o,h⟩:=za h
    obtain ⟨_,_,s,h⟩:=za h;obtain ⟨_,_,A,h⟩:=za h;obtain ⟨_,_,O,h⟩:=za h;obtain ⟨rfl,rfl⟩:=zq h
    have:=Vg o
    exact vQ (by rw [this];exact (un.hd (zx hW)).1) (xE (y _ _ _ A (Zr s (yZ o (zx hW))))) rfl rfl
   split at h
   ·obtain ⟨_,_,o,h⟩:=za h
    obtain ⟨_,_,s,h⟩:=za h;have D:=H _ _ _ o (zx hW);have G:=K _ _ _ s D;have I:=xE (y _ _ _ o (zx hW))
    split at h
    ·obtain ⟨_,_,A,h⟩:=za h
     obtain ⟨rfl,rfl⟩:=zq h;exact vQ (by simp) I (z _ _ _ s D) (z _ _ _ A (zx G))
    ·obtain ⟨rfl,rfl⟩:=zq h
     exact vQ (by simp) I (z _ _ _ s D) rfl
   split at h
   ·obtain ⟨_,_,o,h⟩:=za h
    obtain ⟨_,_,s,h⟩:=za h;obtain ⟨rfl,rfl⟩:=zq h;exact vQ (by simp) (xE (y _ _ _ o (zx hW))) (z _ _ _ s (H _ _ _ o (zx hW))) rfl
   split at h
   ·split at h
    ·obtain ⟨rfl,rfl⟩:=zq h
     rfl
    ·obtain ⟨_,_,o,h⟩:=za h
     obtain ⟨_,_,s,h⟩:=za h;obtain ⟨rfl,rfl⟩:=zq h;exact vQ (by simp) (xE (y _ _ _ o (zx hW))) rfl rfl
   ·obtain ⟨_,_,o,h⟩:=za h
    have G:=H _ _ _ o hW
    split at h
    ·split at h
     ·obtain ⟨_,_,s,h⟩:=za h
      obtain ⟨_,_,A,h⟩:=za h;obtain ⟨rfl,rfl⟩:=zq h;exact vQ (by simp) (qT (y _ _ _ o hW) (y _ _ _ s (zx G))) rfl rfl
     ·cases h
    ·obtain ⟨_,_,s,h⟩:=za h
     obtain ⟨rfl,rfl⟩:=zq h;exact vQ (by simp) (xE (y _ _ _ o hW)) rfl rfl
  ·rw [zO] at h
   obtain ⟨_,_,o,h⟩:=za h;exact J _ _ _ _ h (Zr o hW) rfl
  ·rw [Zn] at h
   split at h
   ·obtain ⟨rfl,rfl⟩:=zq h
    exact hp
   ·obtain ⟨_,_,o,h⟩:=za h
    exact J _ _ _ _ h (N _ _ _ o hW) (zcO hp (L _ _ _ o hW))
mutual
def VK:St→Nat
 | .mk _ _ es b c _=>1+(yH es+(yG b+yG c))
def yG:List St→Nat
 | []=>0
 | x::xs=>VK x+yG xs
end
theorem zbm (l:List St) (x:St):yG (l++[x])=yG l+VK x:=by
 induction l with
 | nil=>simp [yG]
 | cons y ys ih=>simp [yG,ih,Nat.add_assoc]
theorem zeb (f:Nat) :
  (∀ts x us,Zw f ts=some (.ok (x,us))→VK x+us.length≤ts.length)∧(∀ts x us,zO f ts=some (.ok (x,us))→yG x+us.length≤ts.length)∧(∀pre ts x us,Zn f pre ts=some (.ok (x,us))→yG x+us.length≤yG pre+ts.length):=by
 induction f with
 | zero=>refine ⟨?_,?_,?_⟩ <;> intros <;> simp_all [Zw,zO,Zn]
 | succ f ih =>
  obtain ⟨Q,I,L⟩:=ih;have D:=fun ts x us h=>(zcy f).1 1 ts x us h
  refine ⟨fun ts x us h=>?_,fun ts x us h=>?_,fun pre ts x us h=>?_⟩
  ·rw [Zw] at h
   split at h
   ·rename_i z
    have H:=Zc z;obtain ⟨_,_,o,h⟩:=za h;obtain ⟨_,_,s,h⟩:=za h;obtain ⟨_,_,G,h⟩:=za h;obtain ⟨_,_,O,h⟩:=za h;obtain ⟨rfl,rfl⟩:=zq h;have A:=yy o;have y:=zY s;have N:=D _ _ _ G;have J:=zY O;simp only [VK,yH,yG];omega
   split at h
   ·rename_i z
    have H:=Zc z;obtain ⟨_,_,o,h⟩:=za h;obtain ⟨_,K,s,h⟩:=za h;have A:=D _ _ _ o;have y:=I _ _ _ s
    split at h
    ·obtain ⟨_,_,G,h⟩:=za h
     obtain ⟨rfl,rfl⟩:=zq h;have N:=I _ _ _ G;have J:=xD K;simp only [VK,yH];omega
    ·obtain ⟨rfl,rfl⟩:=zq h
     simp only [VK,yH,yG];omega
   split at h
   ·rename_i z
    have H:=Zc z;obtain ⟨_,_,o,h⟩:=za h;obtain ⟨_,_,s,h⟩:=za h;obtain ⟨rfl,rfl⟩:=zq h;have A:=D _ _ _ o;have y:=I _ _ _ s;simp only [VK,yH,yG];omega
   split at h
   ·rename_i z
    have H:=Zc z
    split at h
    ·obtain ⟨rfl,rfl⟩:=zq h
     have J:=xD ts.tail;simp only [VK,yH,yG];omega
    ·obtain ⟨_,_,o,h⟩:=za h
     obtain ⟨_,_,s,h⟩:=za h;obtain ⟨rfl,rfl⟩:=zq h;have A:=D _ _ _ o;have y:=zY s;simp only [VK,yH,yG];omega
   ·obtain ⟨_,K,o,h⟩:=za h
    have A:=D _ _ _ o
    split at h
    ·rename_i z
     have H:=Zc z
     split at h
     ·obtain ⟨_,_,s,h⟩:=za h
      obtain ⟨_,_,G,h⟩:=za h;obtain ⟨rfl,rfl⟩:=zq h;have y:=D _ _ _ s;have N:=zY G;simp only [VK,yH,yG];omega
     ·cases h
    ·obtain ⟨_,_,s,h⟩:=za h
     obtain ⟨rfl,rfl⟩:=zq h;have y:=zY s;simp only [VK,yH,yG];omega
  ·rw [zO] at h
   obtain ⟨_,_,o,h⟩:=za h;have A:=zY o;have y:=L _ _ _ _ h;simp only [yG] at y;omega
  ·rw [Zn] at h
   split at h
   ·obtain ⟨rfl,rfl⟩:=zq h
    have A:=xD ts;omega
   ·obtain ⟨_,_,o,h⟩:=za h
    have A:=Q _ _ _ o;have y:=L _ _ _ _ h;rw [zbm] at y;omega
theorem XQ {M:Nat}:∀(ts:List Tk) (k:Nat) (s:List UInt8) (us:List Tk),ZW k ts=.ok (s,us)→(∀t∈ts,t.s.length≤M)→s.length≤2*k+2*ts.length+M
 | [],k,s,us,h,_=>by simp [ZW] at h
 | t::ts,k,s,us,h,hM=>by
  rw [ZW] at h
  split at h
  ·have:=XQ ts (k+1) s us h fun x hx=>hM x (List.mem_cons_of_mem _ hx)
   simp only [List.length_cons];omega
  ·split at h
   ·cases hc:Z0 k ts with
    | error a=>rw [hc] at h;simp [XA] at h
    | ok vs =>
     rw [hc] at h;simp only [XA,Except.ok.injEq,Prod.mk.injEq] at h;obtain ⟨rfl,-⟩:=h
     have:=hM t (List.mem_cons_self ..)
     simp only [List.length_append,List.length_replicate,List.length_cons];omega
   ·cases h
theorem zbn {n:Nat}:∀{ts o:List Tk},Z0 n ts=.ok o→o.length≤ts.length:=by
 induction n with
 | zero=>intro ts o h;cases h;exact Nat.le_refl _
 | succ n ih =>
  intro ts o h;rw [Z0] at h
  split at h
  ·exact Nat.le_trans (ih h) (xD _)
  ·cases h
theorem qk:∀(ts:List Tk) (k:Nat) (s:List UInt8) (us:List Tk),ZW k ts=.ok (s,us)→us.length≤ts.length
 | [],k,s,us,h=>by simp [ZW] at h
 | t::ts,k,s,us,h=>by
  rw [ZW] at h
  split at h
  ·have:=qk ts (k+1) s us h
   simp only [List.length_cons];omega
  ·split at h
   ·cases hc:Z0 k ts with
    | error a=>rw [hc] at h;simp [XA] at h
    | ok vs =>
     rw [hc] at h;simp only [XA,Except.ok.injEq,Prod.mk.injEq] at h;obtain ⟨-,rfl⟩:=h
     have:=zbn hc
     simp only [List.length_cons];omega
   ·cases h
def Tk5 (t:Tk):Prop:=un t∧t.s.length≤5000
theorem Tk5.hd {ts:List Tk} (h:∀t∈ts,Tk5 t):(zw ts).s.length≤5000:=by
 cases ts with
 | nil=>simp [zw]
 | cons t ts=>exact (h t (List.mem_cons_self ..)).2
theorem zcP {l:List Pm} {p:Pm} (h:qN l=true) (h1:p.1.length≤100000000) (h2:p.2.length≤100000000):qN (l++[p])=true:=by
 unfold qN at h ⊢
 rw [List.all_append,h]
 simp [h1,h2]
theorem vq:∀(f:Nat) (o l:List Pm) (ts y:List Tk),zZ f o ts=some (.ok (l,y))→(∀t∈ts,Tk5 t)→ts.length≤1000000→qN o=true→qN l=true:=by
 intro f
 induction f with
 | zero=>intro o l ts y h;simp [zZ] at h
 | succ f ih =>
  intro o l ts y h z N D;rw [zZ] at h
  unfold yq at h
  by_cases h1:(zw ts).k=1
  ·rw [if_pos h1] at h
   by_cases h2:zo (zw ts.tail) [58]=true
   ·rw [if_pos h2] at h
    have J:=xD ts;have L:=xD ts.tail;cases hs:ZW 0 ts.tail.tail with
    | error a=>rw [hs] at h;simp at h
    | ok p =>
     obtain ⟨s,G⟩:=p;rw [hs] at h;have I:=Vf _ _ _ _ hs (zx (zx z));have H:=XQ (M:=5000) _ _ _ _ hs fun t ht=>(zx (zx z) t ht).2
     have K:=Tk5.hd z;have A:=zcP (p:=((zw ts).s,s)) D (by simp only;omega) (by simp only;omega)
     simp only at h
     split at h
     ·have O:=(qk _ _ _ _ hs)
      have Q:=xD G;exact ih _ _ _ _ h (zx I) (by omega) A
     ·obtain ⟨rfl,rfl⟩:=zq h
      exact A
   ·rw [if_neg h2] at h
    simp at h
  ·rw [if_neg h1] at h
   simp at h
theorem zag {f:Nat} {ts us:List Tk} {l:List Pm} (h:yY f ts=some (.ok (l,us))) (hP:∀t∈ts,Tk5 t) (hl:ts.length≤1000000):qN l=true:=by
 unfold yY at h
 obtain ⟨_,z,s,h⟩:=za h;have o:=Zr s hP;have G:=zY s
 split at h
 ·obtain ⟨rfl,rfl⟩:=zq h
  rfl
 ·obtain ⟨_,A,D,h⟩:=za h
  obtain ⟨_,y,H,h⟩:=za h;obtain ⟨rfl,rfl⟩:=zq h;exact vq _ _ _ _ _ D o (by omega) rfl
theorem zbo {ts us:List Tk} {s:List UInt8} (h:Xs ts=some (.ok (s,us))) (hP:∀t∈ts,Tk5 t) (hl:ts.length≤1000000):s.length≤100000000:=by
 unfold Xs at h
 split at h
 ·have o:=xD ts
  have:=XQ (M:=5000) _ _ _ _ (Option.some.inj h) fun t ht=>(zx hP t ht).2
  omega
 ·obtain ⟨rfl,rfl⟩:=zq h
  simp
theorem zbP {s:List UInt8} {ts us:List Tk} (h:yo ts=some (.ok (s,us))) (hP:∀t∈ts,Tk5 t):s.length≤100000000:=by
 rw [Vg h]
 have:=Tk5.hd hP
 omega
theorem UK {f line:Nat} {ts us:List Tk} {x:Rc} (h:Zx f line ts=some (.ok (x,us))) (hP:∀t∈ts,Tk5 t) (hl:ts.length≤1000000):zdK x=true:=by
 unfold Zx at h
 obtain ⟨_,_,o,h⟩:=za h;obtain ⟨_,_,s,h⟩:=za h;obtain ⟨_,_,y,h⟩:=za h;obtain ⟨_,_,z,h⟩:=za h;obtain ⟨rfl,rfl⟩:=zq h;have A:=yy o;have D:=zY s
 unfold zdK
 rw [vq _ _ _ _ _ y (Zr s (yZ o hP)) (by omega) rfl]
 simp [zbP o hP]
theorem zah {f line:Nat} {ts us:List Tk} {x:Fc} (h:ye f line ts=some (.ok (x,us))) (hE:zg ts) (hP:∀t∈ts,Tk5 t) (hl:ts.length≤1000000):zdL x=true:=by
 unfold ye at h
 obtain ⟨_,_,y,h⟩:=za h;obtain ⟨_,_,D,h⟩:=za h;obtain ⟨_,_,G,h⟩:=za h;obtain ⟨_,_,H,h⟩:=za h;obtain ⟨rfl,rfl⟩:=zq h;have I:=yy y;have A:=ZM y hE;have J:=VD D A;have o:=yZ y hP;have s:=zab D o;have z:=zbJ G s
 unfold zdL
 rw [zag D o (by omega),(zbl f).2.1 _ _ _ H fun t ht=>(z t ht).1]
 simp [zbP y hP,zbo G s (by omega)]
theorem zcQ {P:Tk→Prop} {f line:Nat} {ts us:List Tk} {x:Fc} (h:ye f line ts=some (.ok (x,us))) (hP:∀t∈ts,P t):∀t∈us,P t:=by
 unfold ye at h
 obtain ⟨_,_,s,h⟩:=za h;obtain ⟨_,_,z,h⟩:=za h;obtain ⟨_,_,y,h⟩:=za h;obtain ⟨_,_,o,h⟩:=za h;obtain ⟨rfl,rfl⟩:=zq h;exact (zbO f).2.1 _ _ _ o (zbJ y (zab z (yZ s hP)))
def Vl:List Fc→Nat
 | []=>0
 | x::xs=>1+yG x.body+Vl xs
theorem zcR (l:List Fc) (x:Fc):Vl (l++[x])=Vl l+(1+yG x.body):=by
 induction l with
 | nil=>simp [Vl]
 | cons y ys ih=>simp only [List.cons_append,Vl,ih];omega
theorem zcS {f line:Nat} {ts us:List Tk} {x:Fc} (h:ye f line ts=some (.ok (x,us))) (hE:zg ts):yG x.body+us.length≤ts.length:=by
 unfold ye at h
 obtain ⟨_,_,s,h⟩:=za h;obtain ⟨_,_,y,h⟩:=za h;obtain ⟨_,_,A,h⟩:=za h;obtain ⟨_,_,z,h⟩:=za h;obtain ⟨rfl,rfl⟩:=zq h;have G:=yy s;have o:=ZM s hE;have I:=VD y o;have H:=Q1 A (xg y o);have D:=(zeb f).2.1 _ _ _ z;simp only;omega
theorem xp:∀(f:Nat) (rs:List Rc) (fs:List Fc) (ts:List Tk) (x:Pg) (us:List Tk),Zy f rs fs ts=some (.ok (x,us))→zg ts→(∀t∈ts,Tk5 t)→ts.length≤1000000→rs.all zdK=true→fs.all zdL=true →
  (zw us).k=0∧za6 x=true∧x.recs.length+Vl x.funs≤rs.length+Vl fs+ts.length
 | 0,_,_,_,_,_,h,_,_,_,_,_=>by simp [Zy] at h
 | f+1,rs,fs,ts,x,us,h,hE,hP,hl,hr,hf=>by
  rw [Zy] at h
  by_cases c0:(zw ts).k=0
  ·rw [if_pos c0] at h
   obtain ⟨rfl,rfl⟩:=zq h;refine ⟨c0,?_,by simp only;omega⟩
   unfold za6
   rw [hr,hf];rfl
  rw [if_neg c0] at h
  by_cases c1:zo (zw ts) [114,101,99,111,114,100]=true
  ·rw [if_pos c1] at h
   have D:=Zc c1;have o:=zy hE c1;obtain ⟨y,A,s,z⟩:=za h;have G:=XG s o;obtain ⟨a,b,c⟩:=xp f _ _ _ _ _ z (Yn s o) (zbh s (zx hP)) (by omega) (by rw [List.all_append,hr];simp [UK s (zx hP) (by omega)]) hf
   refine ⟨a,b,?_⟩;rw [List.length_append] at c;simp only [List.length_cons,List.length_nil] at c;omega
  rw [if_neg c1] at h
  by_cases c2:zo (zw ts) [102,110]=true
  ·rw [if_pos c2] at h
   have D:=Zc c2;have o:=zy hE c2;obtain ⟨y,A,s,z⟩:=za h;have G:=zcS s o;obtain ⟨a,b,c⟩:=xp f _ _ _ _ _ z (xh s o) (zcQ s (zx hP)) (by omega) hr (by rw [List.all_append,hf];simp [zah s o (zx hP) (by omega)])
   refine ⟨a,b,?_⟩;rw [zcR] at c;omega
  ·rw [if_neg c2] at h
   simp at h
theorem qV (l:List UInt8):∀t∈(zM l).1,Tk5 t:=by
 intro t o;refine ⟨(zad l t o).1,?_⟩
 by_cases h:(zM l).2.2=0
 ·obtain ⟨-,-,-,-,-,s⟩:=vO ((xz l).2 h).2.1 t o
  exact s
 ·rw [(xz l).1 h] at o
  cases o
mutual
theorem zgV:∀x:Ex,dpE (VG x)=zN x
 | .mk k s n kids line=>by rw [VG,dpE,zN,zec kids,Nat.add_comm]
theorem zec:∀l:List Ex,dpL (Yh l)=depthL l
 | []=>by rw [Yh,dpL,depthL]
 | x::xs=>by rw [Yh,dpL,depthL,zgV x,zec xs]
end
mutual
theorem zgh:∀x:Ex,(Yb (VG x)).length=YJ x
 | .mk k s n kids line=>by rw [VG,Yb,YJ,List.length_cons,zbp kids,Nat.add_comm]
theorem zbp:∀l:List Ex,(yv (Yh l)).length=yH l
 | []=>by rw [Yh,yv,yH];rfl
 | x::xs=>by rw [Yh,yv,yH,List.length_append,zgh x,zbp xs]
end
mutual
theorem ze9:∀x:St,dpS (qY x)=Zo x
 | .mk k s es b c line=>by rw [qY,dpS,Zo,zec es,Um b,Um c];omega
theorem Um:∀l:List St,zcN (Yr l)=depthSs l
 | []=>by rw [Yr,zcN,depthSs]
 | x::xs=>by rw [Yr,zcN,depthSs,ze9 x,Um xs]
end
mutual
theorem zed:∀x:St,(V8 (qY x)).length=VK x
 | .mk k s es b c line=>by rw [qY,V8,VK,List.length_cons,List.length_append,List.length_append,zbp es,XU b,XU c];omega
theorem XU:∀l:List St,(Zi (Yr l)).length=yG l
 | []=>by rw [Yr,Zi,yG];rfl
 | x::xs=>by rw [Yr,Zi,yG,List.length_append,zed x,XU xs]
end
theorem zai:∀l:List Fc,(YM (l.map fcz)).length=Vl l
 | []=>rfl
 | x::xs=>by
  rw [List.map_cons,YM,Vl,List.length_append,zai xs,List.length_cons];show (Zi (Yr x.body)).length+1+_=_
  rw [XU];omega
theorem zaj (x:Pg):(lnsP (pgz x)).length=x.recs.length+Vl x.funs:=by
 unfold lnsP pgz XP
 rw [List.length_append,List.length_map,List.length_map,zai]
def ZZ (n:Nat) (s:List UInt8):List UInt8:=List.replicate n 10++s
theorem ql (n:Nat) (s:List UInt8):(ZZ n s).length=n+s.length:=by simp [ZZ]
theorem xr (n:Nat) (s:List UInt8) (a:Nat):(ZZ n s).drop (a+n)=s.drop a:=by
 unfold ZZ
 rw [List.drop_append,List.drop_of_length_le (by simp),List.nil_append,List.length_replicate,Nat.add_sub_cancel]
theorem Uo (n:Nat) (s:List UInt8) (a:Nat):zG (ZZ n s) (a+n)=zG s a∧zC (ZZ n s) (a+n)=zC s a+n∧∀line,ZF (ZZ n s) (line+n) (a+n)=ZF s line a+n:=by
 refine ⟨?_,?_,fun line=>?_⟩
 ·unfold zG
  rw [xr,show a+n+yJ (s.drop a)=(a+yJ (s.drop a))+n by omega,xr]
 ·unfold zC
  rw [xr];omega
 ·unfold ZF
  rw [xr];omega
theorem zak (n:Nat) (s:List UInt8) (line a:Nat):tkT (ZZ n s) (line+n) (a+n)=YR (·+n) (·+n) (tkT s line a):=by
 obtain ⟨h,o,y⟩:=Uo n s a
 unfold tkT YR
 rw [h,o,y]
theorem zal (n:Nat) (s:List UInt8):∀(f f' line a:Nat),a≤s.length→s.length<a+f→f≤f' →
  (scanS (ZZ n s) f' (line+n) (a+n)).2.2=(scanS s f line a).2.2∧((scanS s f line a).2.2≠0→(scanS (ZZ n s) f' (line+n) (a+n)).2.1=(scanS s f line a).2.1+n)∧(scanS (ZZ n s) f' (line+n) (a+n)).1=(scanS s f line a).1.map (YR (·+n) (·+n))
 | 0,_,_,_,h1,h2,_=>by omega
 | _+1,0,_,_,_,_,h=>by omega
 | f+1,f'+1,line,a,ha,hf,hff=>by
  obtain ⟨D,H,K⟩:=Uo n s a
  by_cases he:(zG s a).e≠0
  ·rw [scanS,scanS,D,if_pos he,if_pos he,H]
   exact ⟨rfl,fun _=>rfl,rfl⟩
  ·have z:(zG s a).e=0:=by omega
   by_cases hk:(zG s a).k=0
   ·rw [scanS,scanS,D,if_neg he,if_neg he,if_pos hk,if_pos hk,zak]
    exact ⟨rfl,fun h=>absurd rfl h,rfl⟩
   ·have o:=yM ha z hk
    have y:=zal n s f f' (ZF s line a) (zC s a+(zG s a).sz) o.2 (by omega) (by omega)
    rw [scanS,scanS,D,if_neg he,if_neg he,if_neg hk,if_neg hk,H,K,zak,show zC s a+n+(zG s a).sz=zC s a+(zG s a).sz+n by omega]
    generalize scanS s f (ZF s line a) (zC s a+(zG s a).sz)=A at y ⊢;generalize scanS (ZZ n s) f' (ZF s line a+n) (zC s a+(zG s a).sz+n)=B at y ⊢;obtain ⟨G,J,I⟩:=y
    by_cases hA:A.2.2≠0
    ·rw [if_pos hA,if_pos (by rw [G];exact hA)]
     exact ⟨G,fun _=>J hA,rfl⟩
    ·rw [if_neg hA,if_neg (by rw [G];exact hA)]
     exact ⟨rfl,fun h=>absurd rfl h,by rw [I];rfl⟩
theorem zam (n:Nat) (s:List UInt8) (f:Nat):scanS (ZZ n s) f 1 0=scanS (ZZ n s) f (1+n) n:=by
 have hd:(ZZ n s).drop n=s:=by
  have:=xr n s 0
  rwa [Nat.zero_add,List.drop_zero] at this
 have h:yJ (ZZ n s)=n+yJ s:=zcf n _;have A:=ud _ s (Nat.le_refl _)
 have o:zG (ZZ n s) 0=zG (ZZ n s) n:=by
  unfold zG
  rw [List.drop_zero,hd,h,Nat.zero_add]
 have y:zC (ZZ n s) 0=zC (ZZ n s) n:=by
  unfold zC
  rw [List.drop_zero,hd,h,Nat.zero_add]
 have z:ZF (ZZ n s) 1 0=ZF (ZZ n s) (1+n) n:=by
  unfold ZF
  rw [List.drop_zero,hd,h]
  unfold ZZ
  rw [List.take_append,List.take_of_length_le (by simp),List.length_replicate,Nat.add_sub_cancel_left]
  unfold Lib.countByte
  rw [List.count_append,List.count_replicate_self];omega
 have D:tkT (ZZ n s) 1 0=tkT (ZZ n s) (1+n) n:=by
  unfold tkT
  rw [o,y,z]
 cases f with
 | zero=>rfl
 | succ f=>rw [scanS,scanS,o,y,z,D]
theorem zan {n:Nat} {s:List UInt8} (hs:s.length≤3000) (hn:n≤500) :
  (zM (ZZ n s)).2.2=(zM s).2.2∧((zM s).2.2≠0→(zM (ZZ n s)).2.1=(zM s).2.1+n)∧(zM (ZZ n s)).1=(zM s).1.map (YR (·+n) (·+n)):=by
 unfold zM
 rw [if_neg (show ¬ 4096<(ZZ n s).length by rw [ql];omega),if_neg (show ¬ 4096<s.length by omega),zam]
 have:=zal n s (s.length+1) ((ZZ n s).length+1) 1 0 (Nat.zero_le _) (by omega) (by rw [ql];omega)
 rw [Nat.zero_add] at this;exact this
mutual
theorem zcT (fl:Nat→Nat):∀x:Ex,zN (Xu fl x)=zN x
 | .mk k s n kids line=>by rw [Xu,zN,zN,VL fl kids]
theorem VL (fl:Nat→Nat):∀l:List Ex,depthL (xw fl l)=depthL l
 | []=>rfl
 | x::xs=>by rw [xw,depthL,depthL,zcT fl x,VL fl xs]
end
mutual
theorem zcU (fl:Nat→Nat):∀x:St,Zo (UF fl x)=Zo x
 | .mk k s es b c line=>by rw [UF,Zo,Zo,VL fl es,Xn fl b,Xn fl c]
theorem Xn (fl:Nat→Nat):∀l:List St,depthSs (yX fl l)=depthSs l
 | []=>rfl
 | x::xs=>by rw [yX,depthSs,depthSs,zcU fl x,Xn fl xs]
end
theorem Up (fl:Nat→Nat):∀l:List Fc,depthFs (l.map (za8 fl))=depthFs l
 | []=>rfl
 | x::xs=>by
  rw [List.map_cons,depthFs,depthFs,Up fl xs];show max (depthSs (yX fl x.body)) _=_
  rw [Xn]
theorem zao {n:Nat} {s:List UInt8} (hs:s.length≤3000) (hn:n≤500) {x x':Pg} {a a' e e':Nat} (h:Z4 s x a e) (h':Z4 (ZZ n s) x' a' e'):x'=Ys (·+n) x∧e'=e∧(e≠0→e≠7→a'=a+n):=by
 obtain ⟨V,R,T⟩:=zan hs hn
 unfold Z4 at h h'
 rw [V,T] at h'
 by_cases hc:(zM s).2.2≠0
 ·rw [if_pos hc] at h h'
  obtain ⟨rfl,rfl,rfl⟩:=h;obtain ⟨rfl,rfl,rfl⟩:=h';exact ⟨rfl,rfl,fun _ _=>R hc⟩
 ·rw [if_neg hc] at h h'
  have D:=xm s (by simpa using hc)
  obtain ⟨f,r,H,A⟩:=h;obtain ⟨W,N,G,o⟩:=h';have I:=uk (·+n) (·+n) f [] [] _ D;rw [H] at I
  have K:N=(match r with | .error a=>.error (a+n) | .ok (y,z)=>.ok (Ys (·+n) y,z.map (YR (·+n) (·+n)))):=by
   have U:xO (Ys (·+n)) (·+n) (·+n) (some r)=some (match r with | .error a=>.error (a+n) | .ok (y,z)=>.ok (Ys (·+n) y,z.map (YR (·+n) (·+n)))):=by
    rcases r with a | ⟨y,z⟩ <;> rfl
   rw [U] at I;exact u6 G I
  subst K;rcases r with b | ⟨y,z⟩
  ·simp only [ZV] at A o
   obtain ⟨rfl,rfl,rfl⟩:=A;obtain ⟨rfl,rfl,rfl⟩:=o;exact ⟨rfl,rfl,fun _ _=>rfl⟩
  ·obtain ⟨J,-,-⟩:=xp f [] [] _ y z H D (qV s) (by have:=Y5 s;omega) rfl rfl
   have L:=Xk f [] [] _ z y H D;have O:ZV (.ok (y,z))=.ok y:=by unfold ZV;simp only [if_pos J]
   have Q:ZV (.ok (Ys (·+n) y,z.map (YR (·+n) (·+n))))=.ok (Ys (·+n) y):=by
    unfold ZV
    simp only;rw [yV L,if_pos (show (YR (·+n) (·+n) (zw z)).k=0 from J)]
   simp only [O,Q] at A o;have hd:depthFs (Ys (·+n) y).funs=depthFs y.funs:=Up _ _;rw [hd] at o
   by_cases h24:24<depthFs y.funs
   ·rw [if_pos h24] at A o
    obtain ⟨rfl,rfl,rfl⟩:=A;obtain ⟨rfl,rfl,rfl⟩:=o;exact ⟨rfl,rfl,fun _ h=>absurd rfl h⟩
   ·rw [if_neg h24] at A o
    obtain ⟨rfl,rfl,rfl⟩:=A;obtain ⟨rfl,rfl,rfl⟩:=o;exact ⟨rfl,rfl,fun h=>absurd rfl h⟩
mutual
theorem zgi (fl:Nat→Nat):∀x:Ex,smE (VG x) (VG (Xu fl x))
 | .mk k s n kids line=>by rw [Xu,VG,VG,smE];exact ⟨rfl,rfl,rfl,zbq fl kids⟩
theorem zbq (fl:Nat→Nat):∀l:List Ex,smL (Yh l) (Yh (xw fl l))
 | []=>by rw [xw,Yh,smL];trivial
 | x::xs=>by rw [xw,Yh,Yh,smL];exact ⟨zgi fl x,zbq fl xs⟩
end
mutual
theorem zgj (fl:Nat→Nat):∀x:St,smS (qY x) (qY (UF fl x))
 | .mk k s es b c line=>by rw [UF,qY,qY,smS];exact ⟨rfl,rfl,zbq fl es,uo fl b,uo fl c⟩
theorem uo (fl:Nat→Nat):∀l:List St,XN (Yr l) (Yr (yX fl l))
 | []=>by rw [yX,Yr,XN];trivial
 | x::xs=>by rw [yX,Yr,Yr,XN];exact ⟨zgj fl x,uo fl xs⟩
end
theorem zgk (fl:Nat→Nat) (x:Pg):SmP (pgz x) (pgz (Ys fl x)) where
 rl:=by unfold pgz Ys;simp
 fl:=by unfold pgz Ys;simp
 r:=fun i a b ha hb=>by
  simp only [pgz,Ys,List.getElem?_map,Option.map_map] at ha hb;cases h:x.recs[i]? with
  | none=>rw [h] at ha;simp at ha
  | some y =>
   rw [h] at ha hb;simp only [Option.map_some,Option.some.injEq] at ha hb;subst ha hb;exact ⟨rfl,rfl⟩
 f:=fun i a b ha hb=>by
  simp only [pgz,Ys,List.getElem?_map,Option.map_map] at ha hb;cases h:x.funs[i]? with
  | none=>rw [h] at ha;simp at ha
  | some y =>
   rw [h] at ha hb;simp only [Option.map_some,Option.some.injEq] at ha hb;subst ha hb;exact ⟨rfl,rfl,rfl,uo fl y.body⟩
mutual
theorem zfa (n:Nat):∀x:Ex,Yb (VG (Xu (·+n) x))=(Yb (VG x)).map (·+(n:Int))
 | .mk k s m kids line=>by rw [Xu,VG,VG,Yb,Yb,qW n kids,List.map_cons];simp
theorem qW (n:Nat):∀l:List Ex,yv (Yh (xw (·+n) l))=(yv (Yh l)).map (·+(n:Int))
 | []=>by rw [xw,Yh,yv];rfl
 | x::xs=>by rw [xw,Yh,Yh,yv,yv,zfa n x,qW n xs,List.map_append]
end
mutual
theorem zfb (n:Nat):∀x:St,V8 (qY (UF (·+n) x))=(V8 (qY x)).map (·+(n:Int))
 | .mk k s es b c line=>by rw [UF,qY,qY,V8,V8,qW n es,Vm n b,Vm n c,List.map_cons,List.map_append,List.map_append];simp
theorem Vm (n:Nat):∀l:List St,Zi (Yr (yX (·+n) l))=(Zi (Yr l)).map (·+(n:Int))
 | []=>by rw [yX,Yr,Zi];rfl
 | x::xs=>by rw [yX,Yr,Yr,Zi,Zi,zfb n x,Vm n xs,List.map_append]
end
theorem zbQ (n:Nat):∀l:List Fc,YM ((l.map (za8 (·+n))).map fcz)=(YM (l.map fcz)).map (·+(n:Int))
 | []=>rfl
 | x::xs=>by
  rw [List.map_cons,List.map_cons,List.map_cons,YM,YM,zbQ n xs,List.map_append,List.map_cons];show ((((x.line+n:Nat):Int))::Zi (Yr (yX (·+n) x.body)))++_=_
  rw [Vm]
  simp [fcz]
theorem zfc (n:Nat) (x:Pg):lnsP (pgz (Ys (·+n) x))=(lnsP (pgz x)).map (·+(n:Int)):=by
 unfold lnsP pgz Ys XP
 rw [List.map_append];simp only;rw [zbQ]
 congr 1
 induction x.recs with
 | nil=>rfl
 | cons y ys ih=>simp only [List.map_cons,ih];simp [rcz,zdP]
mutual
theorem zgl (fl:Nat→Nat):∀x:Ex,Vq (Xu fl x)=Vq x
 | .mk k s n kids line=>by rw [Xu,Vq,Vq,zee fl kids]
theorem zee (fl:Nat→Nat):∀l:List Ex,uW (xw fl l)=uW l
 | []=>rfl
 | x::xs=>by rw [xw,uW,uW,zgl fl x,zee fl xs]
end
mutual
theorem zgm (fl:Nat→Nat):∀x:St,hiS (UF fl x)=hiS x
 | .mk k s es b c line=>by rw [UF,hiS,hiS,uq fl b,uq fl c]
theorem uq (fl:Nat→Nat):∀l:List St,V5 (yX fl l)=V5 l
 | []=>rfl
 | x::xs=>by rw [yX,V5,V5,zgm fl x,uq fl xs]
end
theorem zfd (fl:Nat→Nat) (x:Pg):hiPg (Ys fl x)=hiPg x:=by
 unfold hiPg Ys
 simp only [List.map_map]
 congr 1
 apply List.map_congr_left
 intro y _;exact uq fl y.body
theorem Vn {l:List UInt8} {x:Pg} {a e:Nat} (h:Z4 l x a e):za6 x=true∧x.recs.length+Vl x.funs≤5000∧depthFs x.funs≤24:=by
 unfold Z4 at h
 have s:za6 Y0=true∧Y0.recs.length+Vl Y0.funs≤5000∧depthFs Y0.funs≤24:=⟨rfl,by simp [Vl],by simp [depthFs]⟩
 by_cases hc:(zM l).2.2≠0
 ·rw [if_pos hc] at h
  rw [h.1];exact s
 ·rw [if_neg hc] at h
  have G:=xm l (by simpa using hc)
  obtain ⟨f,r,J,o⟩:=h;rcases r with b | ⟨y,D⟩
  ·simp only [ZV] at o
   rw [o.1];exact s
  ·obtain ⟨H,A,z⟩:=xp f [] [] _ y D J G (qV l) (by have:=Y5 l;omega) rfl rfl
   have K:=Y5 l;have I:ZV (.ok (y,D))=.ok y:=by unfold ZV;simp only [if_pos H]
   simp only [I] at o
   by_cases h24:24<depthFs y.funs
   ·rw [if_pos h24] at o
    rw [o.1];exact s
   ·rw [if_neg h24] at o
    rw [o.1];simp only [List.length_nil,Vl] at z;exact ⟨A,by omega,by omega⟩
end Go.Proofs.YtpejpbbdgblbeaaGreatDoor
