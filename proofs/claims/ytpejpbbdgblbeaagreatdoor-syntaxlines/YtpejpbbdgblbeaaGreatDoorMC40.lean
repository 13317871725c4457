import Derived.Test.YtpejpbbdgblbeaaGreatDoorSDMath
import Derived.Test.YtpejpbbdgblbeaaGreatDoorMC31
import Derived.Test.YtpejpbbdgblbeaaGreatDoorMC39
import Derived.Test.YtpejpbbdgblbeaaGreatDoorMC13
import Derived.Test.YtpejpbbdgblbeaaGreatDoorMC6
import Derived.BigQuiet
import Derived.Test.YtpejpbbdgblbeaaGreatDoorSDUnary
import Derived.Test.YtpejpbbdgblbeaaGreatDoorSDSingle
import Derived.Test.YtpejpbbdgblbeaaGreatDoorXRef7
namespace Go.Proofs.YtpejpbbdgblbeaaGreatDoor
open Go.RowKit Go.Shelf
set_option maxHeartbeats 16000000
set_option maxRecDepth 100000
def un (t:Tk):Prop:=t.s.length≤100000000∧t.n≤9223372036854775807
theorem un.hd {ts:List Tk} (h:∀t∈ts,un t):un (zw ts):=by
 cases ts with
 | nil=>exact ⟨by simp [zw],by simp [zw]⟩
 | cons t us=>exact h t (List.mem_cons_self ..)
theorem Xq {k:Nat} {s:List UInt8} {n:Int} {kids:List Ex} {line:Nat} (hs:s.length≤100000000) (h0:-9223372036854775808≤n) (h1:n≤9223372036854775807) (hk:uW kids=true):Vq (.mk k s n kids line)=true:=by
 rw [Vq]
 simp [hs,h0,h1,hk]
theorem xE {x:Ex} (h:Vq x=true):uW [x]=true:=by simp [uW,h]
theorem qT {x y:Ex} (h:Vq x=true) (g:Vq y=true):uW [x,y]=true:=by simp [uW,h,g]
theorem zd6 {l:List Ex} {x:Ex} (h:uW l=true) (g:Vq x=true):uW (l++[x])=true:=by
 induction l with
 | nil=>exact xE g
 | cons y ys ih =>
  rw [uW,Bool.and_eq_true] at h;rw [List.cons_append,uW,h.1,ih h.2];rfl
theorem Vg {s:List UInt8} {ts us:List Tk} (h:yo ts=some (.ok (s,us))):s=(zw ts).s:=by
 unfold yo at h
 split at h
 ·simp only [Option.some.injEq,Except.ok.injEq,Prod.mk.injEq] at h
  exact h.1.symm
 ·cases h
theorem zac (f:Nat) :
  (∀least ts x us,zh f least ts=some (.ok (x,us))→(∀t∈ts,un t)→Vq x=true)∧(∀least e ts x us,ZD f least e ts=some (.ok (x,us))→(∀t∈ts,un t)→Vq e=true→Vq x=true) ∧
  (∀ts x us,Zp f ts=some (.ok (x,us))→(∀t∈ts,un t)→Vq x=true)∧(∀e ts x us,zE f e ts=some (.ok (x,us))→(∀t∈ts,un t)→Vq e=true→Vq x=true)∧(∀ts x us,zQ f ts=some (.ok (x,us))→(∀t∈ts,un t)→Vq x=true) ∧
  (∀pre ts x us,yp f pre ts=some (.ok (x,us))→(∀t∈ts,un t)→uW pre=true→uW x=true)∧(∀ts x us,zK f ts=some (.ok (x,us))→(∀t∈ts,un t)→uW x=true):=by
 induction f with
 | zero=>refine ⟨?_,?_,?_,?_,?_,?_,?_⟩ <;> intros <;> simp_all [zh,ZD,Zp,zE,zQ,yp,zK]
 | succ f ih =>
  obtain ⟨H,W,V,L,Y,O,T⟩:=ih;obtain ⟨J,j2,j3,j4,j5,j6,j7⟩:=Ue (P:=un) f;refine ⟨fun least ts x us h hE=>?_,fun least e ts x us h hE he=>?_,fun ts x us h hE=>?_,fun e ts x us h hE he=>?_,fun ts x us h hE=>?_,fun pre ts x us h hE he=>?_,fun ts x us h hE=>?_⟩
  ·rw [zh] at h
   split at h
   ·exact V _ _ _ h hE
   ·obtain ⟨y,A,o,s⟩:=za h
    exact W _ _ _ _ _ s (J _ _ _ _ o hE) (H _ _ _ _ o hE)
  ·rw [ZD] at h
   split at h
   ·obtain ⟨y,A,o,s⟩:=za h
    exact W _ _ _ _ _ s (J _ _ _ _ o (zx hE)) (Xq (un.hd hE).1 (by omega) (by omega) (qT he (H _ _ _ _ o (zx hE))))
   ·obtain ⟨rfl,rfl⟩:=zq h;exact he
  ·rw [Zp] at h
   split at h
   ·obtain ⟨y,A,o,s⟩:=za h
    obtain ⟨rfl,rfl⟩:=zq s;exact Xq (un.hd hE).1 (by omega) (by omega) (xE (V _ _ _ o (zx hE)))
   ·obtain ⟨y,A,o,s⟩:=za h
    exact L _ _ _ _ s (j5 _ _ _ o hE) (Y _ _ _ o hE)
  ·rw [zE] at h
   split at h
   ·obtain ⟨y,A,o,s⟩:=za h
    obtain ⟨z,K,G,D⟩:=za s;exact L _ _ _ _ D (Zr G (J _ _ _ _ o (zx hE))) (Xq (by simp) (by omega) (by omega) (qT he (H _ _ _ _ o (zx hE))))
   split at h
   ·obtain ⟨y,A,o,s⟩:=za h
    exact L _ _ _ _ s (yZ o (zx hE)) (Xq (by rw [Vg o];exact (un.hd (zx hE)).1) (by omega) (by omega) (xE he))
   ·obtain ⟨rfl,rfl⟩:=zq h;exact he
  ·have I:=un.hd hE
   rw [zQ] at h
   split at h
   ·obtain ⟨rfl,rfl⟩:=zq h;exact Xq (by simp) (by omega) (by have:=I.2;omega) rfl
   split at h
   ·obtain ⟨rfl,rfl⟩:=zq h;exact Xq I.1 (by omega) (by omega) rfl
   split at h
   ·split at h
    ·obtain ⟨y,A,o,s⟩:=za h
     obtain ⟨rfl,rfl⟩:=zq s;exact Xq I.1 (by omega) (by omega) (T _ _ _ o (zx hE))
    ·obtain ⟨rfl,rfl⟩:=zq h;exact Xq I.1 (by omega) (by omega) rfl
   split at h
   ·obtain ⟨rfl,rfl⟩:=zq h;exact Xq (by simp) (by omega) (by omega) rfl
   split at h
   ·obtain ⟨rfl,rfl⟩:=zq h;exact Xq (by simp) (by omega) (by omega) rfl
   split at h
   ·obtain ⟨y,A,o,s⟩:=za h
    obtain ⟨z,K,G,D⟩:=za s;obtain ⟨rfl,rfl⟩:=zq D;exact Xq (by rw [Vg o];exact (un.hd (zx hE)).1) (by omega) (by omega) (T _ _ _ G (yZ o (zx hE)))
   split at h
   ·obtain ⟨y,A,o,s⟩:=za h
    obtain ⟨z,K,G,D⟩:=za s;obtain ⟨rfl,rfl⟩:=zq D;exact Xq (by simp) (by omega) (by omega) (O _ _ _ _ o (zx hE) rfl)
   ·obtain ⟨y,A,o,s⟩:=za h
    obtain ⟨z,K,G,D⟩:=za s;obtain ⟨Z,Q,h5,N⟩:=za D;obtain ⟨rfl,rfl⟩:=zq N;exact H _ _ _ _ G (Zr o hE)
  ·rw [yp] at h
   obtain ⟨y,A,o,s⟩:=za h;have R:=J _ _ _ _ o hE;have U:=zd6 he (H _ _ _ _ o hE)
   split at s
   ·exact O _ _ _ _ s (zx R) U
   ·obtain ⟨rfl,rfl⟩:=zq s;exact U
  ·rw [zK] at h
   obtain ⟨y,A,o,s⟩:=za h;have R:=Zr o hE
   split at s
   ·obtain ⟨rfl,rfl⟩:=zq s;rfl
   ·obtain ⟨z,K,G,D⟩:=za s
    obtain ⟨Z,Q,h5,N⟩:=za D;obtain ⟨rfl,rfl⟩:=zq N;exact O _ _ _ _ G R rfl
theorem vO {s:List UInt8}:∀{a:Nat} {ts:List Tk},qA s a ts→∀t∈ts,zds s t
 | _,[],_,t,h=>by cases h
 | _,u::us,hp,t,h=>by
  rcases List.mem_cons.1 h with rfl | h
  ·exact hp.2.1
  ·exact vO hp.2.2 t h
theorem zad (l:List UInt8):∀t∈(zM l).1,un t∧WdT t:=by
 intro t y
 by_cases h:(zM l).2.2=0
 ·have G:=vO ((xz l).2 h).2.1 t y
  obtain ⟨-,-,H,-,I,A⟩:=G;refine ⟨⟨by omega,by omega⟩,fun h5=>?_⟩
  have D:yA t.s=true:=by
   have o:=(xd (by rw [h5];decide) (by rw [h5];decide)).1 H
   rw [h5] at o;rcases o with o | o | o | o
   ·exact absurd o.1 (by decide)
   ·exact absurd o.1 (by decide)
   ·exact absurd o.1 (by decide)
   ·exact o.2.1
  have z:∀s,yA s=true→s≠[45]∧s≠[33]:=fun s A=>by
   constructor <;> (rintro rfl;revert A;decide)
  exact z _ D
 ·rw [(xz l).1 h] at y
  cases y
def rgK (k:Int) (s:List UInt8) (n:Int) (m:Nat):Bool :=
 if k=1 then decide (0≤n)&&s==[]&&m==0
 else if k=2 then (n==0||n==1)&&s==[]&&m==0
 else if k=3 then Xa s&&n==0&&m==0
 else if k=4 then XZ s&&n==0&&m==0
 else if k=5 then XZ s&&n==0
 else if k=11 then XZ s&&n==0
 else if k=6 then (s==[45]||s==[33])&&n==0&&m==1
 else if k=7 then decide (0<levelOf s)&&n==0&&m==2
 else if k=8 then s==[]&&n==0&&m==2
 else if k=9 then XZ s&&n==0&&m==1
 else if k=10 then s==[]&&n==0&&decide (0<m)
 else false
mutual
def rgE:Ez→Bool
 | .mk k s n kids _=>rgL kids&&rgK k s n kids.length
def rgL:List Ez→Bool
 | []=>true
 | x::xs=>rgE x&&rgL xs
end
mutual
def dpE:Ez→Nat
 | .mk _ _ _ kids _=>dpL kids+1
def dpL:List Ez→Nat
 | []=>0
 | x::xs=>max (dpE x) (dpL xs)
end
def zbK:List (List UInt8)→List UInt8
 | []=>[]
 | [t]=>t
 | t::u::r=>t++[44,32]++zbK (u::r)
def Vh (x:Ez) (least:Nat) (t:List UInt8):List UInt8:=if lvE x<least then [40]++t++[41] else t
def txK (k:Int) (s:List UInt8) (n:Int) (kids:List Ez) (ts:List (List UInt8)):List UInt8 :=
 if k=1 then Lib.decDigits n.toNat
 else if k=2 then (if n=1 then [116,114,117,101] else [102,97,108,115,101])
 else if k=3 then yj s
 else if k=4 then s
 else if k=5 then s++[40]++zbK ts++[41]
 else if k=6 then (match kids,ts with
  | a::_,t::_=>s++Vh a 7 t
  | _,_=>[])
 else if k=7 then (match kids,ts with
  | a::b::_,t::u::_=>Vh a (levelOf s) t++[32]++s++[32]++Vh b (levelOf s+1) u
  | _,_=>[])
 else if k=8 then (match kids,ts with
  | a::_,t::u::_=>Vh a 8 t++[91]++u++[93]
  | _,_=>[])
 else if k=9 then (match kids,ts with
  | a::_,t::_=>Vh a 8 t++[46]++s
  | _,_=>[])
 else if k=10 then [91]++zbK ts++[93]
 else [110,101,119,32]++s++[40]++zbK ts++[41]
mutual
def txE:Ez→List UInt8
 | .mk k s n kids _=>txK k s n kids (txL kids)
def txL:List Ez→List (List UInt8)
 | []=>[]
 | x::xs=>txE x::txL xs
end
theorem ze6 {l:List Ez} {d:Nat}:dpL l≤d↔∀y∈l,dpE y≤d:=by
 induction l with
 | nil=>simp [dpL]
 | cons x xs ih=>rw [dpL,List.forall_mem_cons,←ih];omega
mutual
def nbE:Ez→Bool
 | .mk _ _ n kids _=>decide (n≤9223372036854775807)&&nbL kids
def nbL:List Ez→Bool
 | []=>true
 | x::xs=>nbE x&&nbL xs
end
theorem zae {k:Int} {s:List UInt8} {n:Int} {kids:List Ez} {line:Int} {N i:Nat} {y:Ez} (h:dpE (.mk k s n kids line)≤N+1) (hy:kids[i]?=some y):dpE y≤N:=by
 rw [dpE] at h;exact (ze6 (d:=N)).1 (by omega) y (List.mem_of_getElem? hy)
mutual
def smE:Ez→Ez→Prop
 | .mk k s n kids _,.mk k' s' n' kids' _=>k=k'∧s=s'∧n=n'∧smL kids kids'
def smL:List Ez→List Ez→Prop
 | [],[]=>True
 | x::xs,y::ys=>smE x y∧smL xs ys
 | [],_::_=>False
 | _::_,[]=>False
end
theorem qU:∀{l l':List Ez},smL l l'→l.length=l'.length∧∀(i:Nat) (x y:Ez),l[i]?=some x→l'[i]?=some y→smE x y
 | [],[],_=>⟨rfl,fun i x y hx=>by simp at hx⟩
 | x::xs,y::ys,h=>by
  rw [smL] at h;obtain ⟨o,s⟩:=qU h.2;refine ⟨by simp [o],fun i a b ha hb=>?_⟩
  cases i with
  | zero =>
   simp only [List.getElem?_cons_zero,Option.some.injEq] at ha hb;subst ha hb;exact h.1
  | succ i=>exact s i a b (by simpa using ha) (by simpa using hb)
 | [],_::_,h=>by rw [smL] at h;exact h.elim
 | _::_,[],h=>by rw [smL] at h;exact h.elim
mutual
theorem zd7:∀x:Ez,smE x x
 | .mk k s n kids line=>by rw [smE];exact ⟨rfl,rfl,rfl,Ug kids⟩
theorem Ug:∀l:List Ez,smL l l
 | []=>by rw [smL];trivial
 | x::xs=>by rw [smL];exact ⟨zd7 x,Ug xs⟩
end
def Ya (w:World) (l:List Ez) (base:Option Addr):Prop:=∀(i:Nat) (x:Ez),l[i]?=some x→∃b o a1 a2 a3 a4 a5 a6 a7,base=some ⟨b,o,none⟩∧b<w.heap.size∧Zs w.heap.size w x (yu a1 a2 a3 a4 a5 a6 a7) ∧
 w.cell? ⟨b,o+i*5,none⟩=some (.int .i64 a1)∧w.cell? ⟨b,o+i*5+1,none⟩=some (.string (zb a2))∧w.cell? ⟨b,o+i*5+2,none⟩=some (.int .i64 a3)∧w.cell? ⟨b,o+i*5+3,none⟩=some (.slice a4 a5 a6)∧w.cell? ⟨b,o+i*5+4,none⟩=some (.int .i64 a7)
theorem Ya.below {w W:World} {l:List Ez} {base:Option Addr} (h:Ya w l base) (hb:Below w.heap.size w W):Ya W l base:=by
 intro i x G;obtain ⟨b,o,Q,J,R,D,A,O,K,e,s,y,z,L,I,N,H⟩:=h i x G;exact ⟨b,o,Q,J,R,D,A,O,K,e,Nat.lt_of_lt_of_le s hb.size,(y.kept hb).wide hb.size,(hb.cell (p:=⟨b,o+i*5,none⟩) s).trans z,(hb.cell (p:=⟨b,o+i*5+1,none⟩) s).trans L,(hb.cell (p:=⟨b,o+i*5+2,none⟩) s).trans I,(hb.cell (p:=⟨b,o+i*5+3,none⟩) s).trans N,(hb.cell (p:=⟨b,o+i*5+4,none⟩) s).trans H⟩
theorem Vi (l l':List Ez) (base base':Option Addr) (m cap cap':Nat) (w:World) (hm:m=l.length) (hm':m=l'.length) (hmx:m≤9223372036854775807) (hk:Ya w l base) (hk':Ya w l' base')
  (hs:∀(i:Nat) (x y:Ez),l[i]?=some x→l'[i]?=some y→∀W v u,Zs W.heap.size W x v→Zs W.heap.size W y u→Calls Tryz.prog 20 #[v,u] W fun e w'=>e=.returned (.bool true)∧Below W.heap.size W w') :
  Calls Tryz.prog 46 #[.slice base m cap,.slice base' m cap'] w fun e w'=>e=.returned (.bool true)∧Below w.heap.size w w':=by
 have HK:Hid (Ya w l base∧Ya w l' base'):=⟨hk,hk'⟩;have HS:Hid (∀(i:Nat) (x y:Ez),l[i]?=some x→l'[i]?=some y→∀W v u,Zs W.heap.size W x v→Zs W.heap.size W y u→Calls Tryz.prog 20 #[v,u] W fun e w'=>e=.returned (.bool true)∧Below W.heap.size W w'):=hs
 have J:Hid (m=l.length∧m=l'.length):=⟨hm,hm'⟩;have K:Hid (Below w.heap.size w w):=Below.refl _ _;clear hk hk' hs hm hm'
 go_enter Tryz.func46,Tryz.ntmps46
 go_wp2
 go_loopw [5] (fun vi wr=>∃i:Nat,i≤m∧vi=.int .i64 (i:Int)∧Below w.heap.size w wr) (fun vi _=>m-(intOf vi).toNat)
 case atStart=>exact ⟨0,Nat.zero_le _,rfl,K.out⟩
 case round =>
  obtain ⟨i,hi,rfl,H⟩:=hrel;have I:Hid (Below w.heap.size w wr):=H;clear H
  by_cases hlt:i<m
  ·have L:(i:Int)<m:=by omega
   obtain ⟨x,R⟩:∃x,l[i]?=some x:=⟨l[i]'(by rw [←J.out.1];exact hlt),List.getElem?_eq_getElem (by rw [←J.out.1];exact hlt)⟩
   obtain ⟨y,Q⟩:∃y,l'[i]?=some y:=⟨l'[i]'(by rw [←J.out.2];exact hlt),List.getElem?_eq_getElem (by rw [←J.out.2];exact hlt)⟩
   have z:Hid (Ya wr l base∧Ya wr l' base'):=⟨HK.out.1.below I.out,HK.out.2.below I.out⟩;obtain ⟨b,o,a1,a2,a3,a4,a5,a6,a7,rfl,A,G,T,V,m2,Y,U⟩:=z.out.1 i x R;obtain ⟨b',o',c1,c2,c3,c4,c5,c6,c7,rfl,s,D,Z,n1,n2,n3,n4⟩:=z.out.2 i y Q
   have HC:Hid (∀wx,Below wr.heap.size wr wx→Calls Tryz.prog 20 #[yu a1 a2 a3 a4 a5 a6 a7,yu c1 c2 c3 c4 c5 c6 c7] wx fun e w''=>e=.returned (.bool true)∧Below wr.heap.size wr w''):=fun wx hwx =>
    (HS.out i x y R Q wx _ _ ((G.kept hwx).wide hwx.size) ((D.kept hwx).wide hwx.size)).mono fun e w'' h=>⟨h.1,hwx.trans (h.2.mono hwx.size)⟩
   have u0:=z7 (n:=wr.heap.size) T A;have u1:=z7 (n:=wr.heap.size) V A;have u2:=z7 (n:=wr.heap.size) m2 A;have u3:=z7 (n:=wr.heap.size) Y A;have u4:=z7 (n:=wr.heap.size) U A;have v0:=z7 (n:=wr.heap.size) Z s;have v1:=z7 (n:=wr.heap.size) n1 s;have v2:=z7 (n:=wr.heap.size) n2 s;have v3:=z7 (n:=wr.heap.size) n3 s;have v4:=z7 (n:=wr.heap.size) n4 s;clear T V m2 Y U Z n1 n2 n3 n4 G D R Q z A s;have N:w.heap.size≤wr.heap.size:=I.out.size;go_wp2_with fail
   refine xG (n:=wr.heap.size) (w0:=wr) (Below.refl _ _) (by kernel_rfl) (by kernel_rfl) ?_
   iterate 8 (go_big_quiet_step (fail))
   go_big_quiet_step (exact xP HC.out _)
   iterate 1 (go_big_quiet_step (fail))
   refine wpQuiet_nil ?_;rintro _ ⟨c,rfl⟩;have O:Hid (Below w.heap.size w c.1):=I.out.trans (c.2.mono N);clear u0 u1 u2 u3 u4 v0 v1 v2 v3 v4;go_wp2
   exact ⟨⟨i+1,by omega,by go_num,O.out⟩,by simp [intOf];omega⟩
  ·obtain rfl:i=m:=by omega
   have L:¬ (i:Int)<i:=by omega
   go_wp2
   go_ret
   exact ⟨rfl,I.out⟩
theorem qg:∀(N:Nat) (x y:Ez) (v u:Value) (w:World),dpE x≤N→smE x y→Zs w.heap.size w x v→Zs w.heap.size w y u →
  Calls Tryz.prog 20 #[v,u] w fun e w'=>e=.returned (.bool true)∧Below w.heap.size w w'
 | 0,.mk k s n kids line,y,v,u,w,hd,_,_,_=>by rw [dpE] at hd;omega
 | N+1,.mk k s n kids line,.mk k' s' n' kids' line',v,u,w,hd,hsm,hx,hy=>by
  rw [smE] at hsm;obtain ⟨rfl,rfl,rfl,R⟩:=hsm;obtain ⟨D,L⟩:=qU R;obtain ⟨base,H,rfl,hc,Q,Y,ad,af,G⟩:=hx.kid;obtain ⟨base',A,rfl,aa,O,-,-,-,z⟩:=hy.kid;obtain ⟨m,V⟩:∃m,m=kids.length:=⟨_,rfl⟩;rw [←D,←V];rw [←V] at hc;have ab:m≤9223372036854775807:=by unfold maxLen at Q;omega
  have K:Ya w kids base:=fun i x h=>by
   obtain ⟨b,o,a1,a2,a3,Z,a5,a6,a7,e,hb,I,J,h⟩:=G i x h;exact ⟨b,o,a1,a2,a3,Z,a5,a6,a7,e,I,J,h⟩
  have U:Ya w kids' base':=fun i x h=>by
   obtain ⟨b,o,a1,a2,a3,Z,a5,a6,a7,e,hb,I,J,h⟩:=z i x h;exact ⟨b,o,a1,a2,a3,Z,a5,a6,a7,e,I,J,h⟩
  have HC:Hid (∀W,Below w.heap.size w W→Calls Tryz.prog 46 #[.slice base m H,.slice base' m A] W fun e w'=>e=.returned (.bool true)∧Below W.heap.size W w'):=fun W hW =>
   Vi kids kids' base base' m H A W V (V.trans D) ab (K.below hW) (U.below hW) fun i x y hx hy W' v u h1 h2=>qg N x y v u W' (zae hd hx) (L i x y hx hy) h1 h2
  have HB:Hid (Below w.heap.size w ((w.alloc (Yi k s n base m H line)).alloc (Yi k s n base' m A line'))):=((Below.refl _ w).alloc (Nat.le_refl _) _).alloc (by simp) _
  have cc:=HC.out _ HB.out;clear hx hy G z K U hc aa Q O Y ad af L D R V hd HC
  go_enter Tryz.func20,Tryz.ntmps20
  go_wp2_with fail
  refine cc.mono ?_;clear cc;rintro e w2 ⟨rfl,T⟩;have ae:Hid (Below w.heap.size w w2):=HB.out.trans (T.mono HB.out.size);clear T;go_wp2
  exact bodyPost_ret (v:=.bool true) (by simp [results,Tryz.results20,go_sem]) rfl ⟨rfl,ae.out⟩
mutual
theorem ze7:∀x:Ex,dpE (VG x)=zN x
 | .mk k s n kids line=>by rw [VG,dpE,zN,zbL kids,Nat.add_comm]
theorem zbL:∀l:List Ex,dpL (Yh l)=depthL l
 | []=>by rw [Yh,dpL,depthL]
 | x::xs=>by rw [Yh,dpL,depthL,ze7 x,zbL xs]
end
end Go.Proofs.YtpejpbbdgblbeaaGreatDoor
