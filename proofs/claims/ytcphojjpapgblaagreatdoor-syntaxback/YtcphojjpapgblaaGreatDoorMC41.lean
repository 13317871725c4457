import Derived.Test.YtcphojjpapgblaaGreatDoorSDMath
import Derived.Test.YtcphojjpapgblaaGreatDoorMC12
import Derived.Test.YtcphojjpapgblaaGreatDoorMC38
import Derived.Test.YtcphojjpapgblaaGreatDoorMC19
import Derived.Test.YtcphojjpapgblaaGreatDoorMC34
import Derived.Test.YtcphojjpapgblaaGreatDoorMC4
import Derived.BigQuiet
import Derived.Test.YtcphojjpapgblaaGreatDoorSDUnary
import Derived.Test.YtcphojjpapgblaaGreatDoorSDSingle
import Derived.Test.YtcphojjpapgblaaGreatDoorXRef7
namespace Go.Proofs.YtcphojjpapgblaaGreatDoor
open Go.RowKit Go.Shelf
set_option maxHeartbeats 16000000
set_option maxRecDepth 100000
def Uo (t:Tk):Prop:=t.s.length≤100000000∧t.n≤9223372036854775807
theorem Uo.hd {ts:List Tk} (h:∀t∈ts,Uo t):Uo (zu ts):=by
 cases ts with
 | nil=>exact ⟨by simp [zu],by simp [zu]⟩
 | cons t us=>exact h t (List.mem_cons_self ..)
theorem XK {k:Nat} {s:List UInt8} {n:Int} {kids:List Ex} {line:Nat} (hs:s.length≤100000000) (h0:-9223372036854775808≤n) (h1:n≤9223372036854775807) (hk:UU kids=true):VB (.mk k s n kids line)=true:=by
 rw [VB]
 simp [hs,h0,h1,hk]
theorem xT {x:Ex} (h:VB x=true):UU [x]=true:=by simp [UU,h]
theorem zar {x y:Ex} (h:VB x=true) (g:VB y=true):UU [x,y]=true:=by simp [UU,h,g]
theorem zgb {l:List Ex} {x:Ex} (h:UU l=true) (g:VB x=true):UU (l++[x])=true:=by
 induction l with
 | nil=>exact xT g
 | cons y ys ih =>
  rw [UU,Bool.and_eq_true] at h;rw [List.cons_append,UU,h.1,ih h.2];rfl
theorem VW {s:List UInt8} {ts us:List Tk} (h:Z6 ts=some (.ok (s,us))):s=(zu ts).s:=by
 unfold Z6 at h
 split at h
 ·simp only [Option.some.injEq,Except.ok.injEq,Prod.mk.injEq] at h
  exact h.1.symm
 ·cases h
theorem uV (f:Nat) :
  (∀least ts x us,zg f least ts=some (.ok (x,us))→(∀t∈ts,Uo t)→VB x=true)∧(∀least e ts x us,Zs f least e ts=some (.ok (x,us))→(∀t∈ts,Uo t)→VB e=true→VB x=true) ∧
  (∀ts x us,Zm f ts=some (.ok (x,us))→(∀t∈ts,Uo t)→VB x=true)∧(∀e ts x us,zx f e ts=some (.ok (x,us))→(∀t∈ts,Uo t)→VB e=true→VB x=true)∧(∀ts x us,zH f ts=some (.ok (x,us))→(∀t∈ts,Uo t)→VB x=true) ∧
  (∀pre ts x us,Z1 f pre ts=some (.ok (x,us))→(∀t∈ts,Uo t)→UU pre=true→UU x=true)∧(∀ts x us,zG f ts=some (.ok (x,us))→(∀t∈ts,Uo t)→UU x=true):=by
 induction f with
 | zero=>refine ⟨?_,?_,?_,?_,?_,?_,?_⟩ <;> intros <;> simp_all [zg,Zs,Zm,zx,zH,Z1,zG]
 | succ f ih =>
  obtain ⟨I,V,X,O,i5,U,Y⟩:=ih;obtain ⟨N,j2,j3,j4,Z,j6,j7⟩:=qi (P:=Uo) f;refine ⟨fun least ts x us h hE=>?_,fun least e ts x us h hE he=>?_,fun ts x us h hE=>?_,fun e ts x us h hE he=>?_,fun ts x us h hE=>?_,fun pre ts x us h hE he=>?_,fun ts x us h hE=>?_⟩
  ·rw [zg] at h
   split at h
   ·exact X _ _ _ h hE
   ·obtain ⟨y,D,o,A⟩:=za h
    exact V _ _ _ _ _ A (N _ _ _ _ o hE) (I _ _ _ _ o hE)
  ·rw [Zs] at h
   split at h
   ·obtain ⟨y,D,o,A⟩:=za h
    exact V _ _ _ _ _ A (N _ _ _ _ o (zz hE)) (XK (Uo.hd hE).1 (by omega) (by omega) (zar he (I _ _ _ _ o (zz hE))))
   ·obtain ⟨rfl,rfl⟩:=zq h;exact he
  ·rw [Zm] at h
   split at h
   ·obtain ⟨y,D,o,A⟩:=za h
    obtain ⟨rfl,rfl⟩:=zq A;exact XK (Uo.hd hE).1 (by omega) (by omega) (xT (X _ _ _ o (zz hE)))
   ·obtain ⟨y,D,o,A⟩:=za h
    exact O _ _ _ _ A (Z _ _ _ o hE) (i5 _ _ _ o hE)
  ·rw [zx] at h
   split at h
   ·obtain ⟨y,D,o,A⟩:=za h
    obtain ⟨z,J,H,G⟩:=za A;exact O _ _ _ _ G (Zv H (N _ _ _ _ o (zz hE))) (XK (by simp) (by omega) (by omega) (zar he (I _ _ _ _ o (zz hE))))
   split at h
   ·obtain ⟨y,D,o,A⟩:=za h
    exact O _ _ _ _ A (Yi o (zz hE)) (XK (by rw [VW o];exact (Uo.hd (zz hE)).1) (by omega) (by omega) (xT he))
   ·obtain ⟨rfl,rfl⟩:=zq h;exact he
  ·have L:=Uo.hd hE
   rw [zH] at h
   split at h
   ·obtain ⟨rfl,rfl⟩:=zq h;exact XK (by simp) (by omega) (by have:=L.2;omega) rfl
   split at h
   ·obtain ⟨rfl,rfl⟩:=zq h;exact XK L.1 (by omega) (by omega) rfl
   split at h
   ·split at h
    ·obtain ⟨y,D,o,A⟩:=za h
     obtain ⟨rfl,rfl⟩:=zq A;exact XK L.1 (by omega) (by omega) (Y _ _ _ o (zz hE))
    ·obtain ⟨rfl,rfl⟩:=zq h;exact XK L.1 (by omega) (by omega) rfl
   split at h
   ·obtain ⟨rfl,rfl⟩:=zq h;exact XK (by simp) (by omega) (by omega) rfl
   split at h
   ·obtain ⟨rfl,rfl⟩:=zq h;exact XK (by simp) (by omega) (by omega) rfl
   split at h
   ·obtain ⟨y,D,o,A⟩:=za h
    obtain ⟨z,J,H,G⟩:=za A;obtain ⟨rfl,rfl⟩:=zq G;exact XK (by rw [VW o];exact (Uo.hd (zz hE)).1) (by omega) (by omega) (Y _ _ _ H (Yi o (zz hE)))
   split at h
   ·obtain ⟨y,D,o,A⟩:=za h
    obtain ⟨z,J,H,G⟩:=za A;obtain ⟨rfl,rfl⟩:=zq G;exact XK (by simp) (by omega) (by omega) (U _ _ _ _ o (zz hE) rfl)
   ·obtain ⟨y,D,o,A⟩:=za h
    obtain ⟨z,J,H,G⟩:=za A;obtain ⟨z',Q,h5,T⟩:=za G;obtain ⟨rfl,rfl⟩:=zq T;exact I _ _ _ _ H (Zv o hE)
  ·rw [Z1] at h
   obtain ⟨y,D,o,A⟩:=za h;have R:=N _ _ _ _ o hE;have W:=zgb he (I _ _ _ _ o hE)
   split at A
   ·exact U _ _ _ _ A (zz R) W
   ·obtain ⟨rfl,rfl⟩:=zq A;exact W
  ·rw [zG] at h
   obtain ⟨y,D,o,A⟩:=za h;have R:=Zv o hE
   split at A
   ·obtain ⟨rfl,rfl⟩:=zq A;rfl
   ·obtain ⟨z,J,H,G⟩:=za A
    obtain ⟨z',Q,h5,T⟩:=za G;obtain ⟨rfl,rfl⟩:=zq T;exact U _ _ _ _ H R rfl
theorem Vy {s:List UInt8}:∀{a:Nat} {ts:List Tk},zag s a ts→∀t∈ts,zfJ s t
 | _,[],_,t,h=>by cases h
 | _,u::us,hp,t,h=>by
  rcases List.mem_cons.1 h with rfl | h
  ·exact hp.2.1
  ·exact Vy hp.2.2 t h
theorem uW (l:List UInt8):∀t∈(zW l).1,Uo t∧WdT t:=by
 intro t z
 by_cases h:(zW l).2.2=0
 ·have H:=Vy ((xR l).2 h).2.1 t z
  obtain ⟨-,-,D,-,I,A⟩:=H;refine ⟨⟨by omega,by omega⟩,fun h5=>?_⟩
  have G:yh t.s=true:=by
   have o:=(ZV (by rw [h5];decide) (by rw [h5];decide)).1 D
   rw [h5] at o;rcases o with o | o | o | o
   ·exact absurd o.1 (by decide)
   ·exact absurd o.1 (by decide)
   ·exact absurd o.1 (by decide)
   ·exact o.2.1
  have y:∀s,yh s=true→s≠[45]∧s≠[33]:=fun s A=>by
   constructor <;> (rintro rfl;revert A;decide)
  exact y _ G
 ·rw [(xR l).1 h] at z
  cases z
def TkG (t:Tk):Prop:=yr t.k t.n t.s∧t.n≤9223372036854775807
theorem TkG.hd {ts:List Tk} (h:∀t∈ts,TkG t):TkG (zu ts):=by
 cases ts with
 | nil=>exact ⟨(ZV (k:=0) (n:=0) (by decide) (by decide)).2 (.inl ⟨rfl,rfl,rfl⟩),Nat.zero_le _⟩
 | cons t us=>exact h t (List.mem_cons_self ..)
theorem TkG.name {t:Tk} (h:TkG t) (hk:t.k=1):yr 1 0 t.s:=by
 have y:=h.1;rw [hk] at y;rcases (ZV (by decide) (by decide)).1 y with ⟨o,-⟩ | ⟨-,o,-⟩ | ⟨o,-⟩ | ⟨o,-⟩
 ·exact absurd o (by decide)
 ·exact (ZV (k:=1) (n:=0) (by decide) (by decide)).2 (.inr (.inl ⟨rfl,o,rfl⟩))
 ·exact absurd o (by decide)
 ·exact absurd o (by decide)
theorem TkG.num {t:Tk} (h:TkG t):yr 2 (t.n:Int) []:=by
 have o:=h.2;exact (UY (by omega)).2 ⟨rfl,by omega⟩
theorem TkG.text {t:Tk} (h:TkG t) (hk:t.k=3):yr 3 0 t.s:=by
 have o:=h.1;rw [hk] at o;have y:=uk.1 o;rw [y.2] at o;exact o
def gd1 (k:Nat) (s:List UInt8) (n:Int) (m:Nat):Prop:=YC k s n m=true∧(k=1→yr 2 n [])∧(k=3→yr 3 0 s)∧(k=4∨k=5∨k=9∨k=11→yr 1 0 s)
mutual
def gdE:Ex→Prop
 | .mk k s n kids _=>gd1 k s n kids.length∧gdL kids
def gdL:List Ex→Prop
 | []=>True
 | x::xs=>gdE x∧gdL xs
end
abbrev So (o:Option (List UInt8)):Prop:=∃t,o=some t
theorem So.s (u:List UInt8):So (some u):=⟨u,rfl⟩
theorem So.then {a b:Option (List UInt8)} (ha:So a) (hb:So b):So (zd a b):=by
 obtain ⟨u,rfl⟩:=ha;obtain ⟨v,rfl⟩:=hb;exact ⟨u++v,rfl⟩
theorem So.tok {k n:Int} {s:List UInt8} (h:yr k n s):So (tokO k n s):=by
 refine ⟨xL k n s,?_⟩
 unfold tokO tkB
 rw [if_pos h]
 rfl
theorem So.kid {x:Ez} {least:Nat} {o:Option (List UInt8)} (h:So o):So (kidO x least o):=by
 unfold kidO
 split
 ·exact h
 ·exact (So.s _).then (h.then (So.s _))
theorem So.row {l:List (Option (List UInt8))}:∀i,i≤l.length→(∀o∈l,So o)→So (rowO l i)
 | 0,_,_=>So.s _
 | i+1,hi,h=>by
  unfold rowO
  refine (So.row i (by omega) h).then ((So.s _).then ?_)
  rw [List.getElem?_eq_getElem (by omega)]
  exact h _ (List.getElem_mem ..)
theorem zbO {k:Int} {s:List UInt8} {n:Int} {kids:List Ez} {line:Int} {N i:Nat} {y:Ez} (h:qw (.mk k s n kids line)≤N+1) (hy:kids[i]?=some y):qw y≤N:=by
 rw [qw] at h;exact (zdo (d:=N)).1 (by omega) y (List.mem_of_getElem? hy)
mutual
def smE:Ez→Ez→Prop
 | .mk k s n kids _,.mk k' s' n' kids' _=>k=k'∧s=s'∧n=n'∧qR kids kids'
def qR:List Ez→List Ez→Prop
 | [],[]=>True
 | x::xs,y::ys=>smE x y∧qR xs ys
 | [],_::_=>False
 | _::_,[]=>False
end
theorem zas:∀{l l':List Ez},qR l l'→l.length=l'.length∧∀(i:Nat) (x y:Ez),l[i]?=some x→l'[i]?=some y→smE x y
 | [],[],_=>⟨rfl,fun i x y hx=>by simp at hx⟩
 | x::xs,y::ys,h=>by
  rw [qR] at h;obtain ⟨z,o⟩:=zas h.2;refine ⟨by simp [z],fun i a b ha hb=>?_⟩
  cases i with
  | zero =>
   simp only [List.getElem?_cons_zero,Option.some.injEq] at ha hb;subst ha hb;exact h.1
  | succ i=>exact o i a b (by simpa using ha) (by simpa using hb)
 | [],_::_,h=>by rw [qR] at h;exact h.elim
 | _::_,[],h=>by rw [qR] at h;exact h.elim
mutual
theorem zgc:∀x:Ez,smE x x
 | .mk k s n kids line=>by rw [smE];exact ⟨rfl,rfl,rfl,qm kids⟩
theorem qm:∀l:List Ez,qR l l
 | []=>by rw [qR];trivial
 | x::xs=>by rw [qR];exact ⟨zgc x,qm xs⟩
end
def Y1 (w:World) (l:List Ez) (base:Option Addr):Prop:=∀(i:Nat) (x:Ez),l[i]?=some x→∃b o a1 a2 a3 a4 a5 a6 a7,base=some ⟨b,o,none⟩∧b<w.heap.size∧Zl w.heap.size w x (yp a1 a2 a3 a4 a5 a6 a7) ∧
 w.cell? ⟨b,o+i*5,none⟩=some (.int .i64 a1)∧w.cell? ⟨b,o+i*5+1,none⟩=some (.string (zb a2))∧w.cell? ⟨b,o+i*5+2,none⟩=some (.int .i64 a3)∧w.cell? ⟨b,o+i*5+3,none⟩=some (.slice a4 a5 a6)∧w.cell? ⟨b,o+i*5+4,none⟩=some (.int .i64 a7)
theorem Y1.below {w W:World} {l:List Ez} {base:Option Addr} (h:Y1 w l base) (hb:Below w.heap.size w W):Y1 W l base:=by
 intro i x J;obtain ⟨b,o,N,U,Q,G,O,T,L,e,y,z,H,I,D,A,R⟩:=h i x J;exact ⟨b,o,N,U,Q,G,O,T,L,e,Nat.lt_of_lt_of_le y hb.size,(z.kept hb).wide hb.size,(hb.cell (p:=⟨b,o+i*5,none⟩) y).trans H,(hb.cell (p:=⟨b,o+i*5+1,none⟩) y).trans I,(hb.cell (p:=⟨b,o+i*5+2,none⟩) y).trans D,(hb.cell (p:=⟨b,o+i*5+3,none⟩) y).trans A,(hb.cell (p:=⟨b,o+i*5+4,none⟩) y).trans R⟩
theorem VX (l l':List Ez) (base base':Option Addr) (m cap cap':Nat) (w:World) (hm:m=l.length) (hm':m=l'.length) (hmx:m≤9223372036854775807) (hk:Y1 w l base) (hk':Y1 w l' base')
  (hs:∀(i:Nat) (x y:Ez),l[i]?=some x→l'[i]?=some y→∀W v u,Zl W.heap.size W x v→Zl W.heap.size W y u→Calls Tryz.prog 18 #[v,u] W fun e w'=>e=.returned (.bool true)∧Below W.heap.size W w') :
  Calls Tryz.prog 44 #[.slice base m cap,.slice base' m cap'] w fun e w'=>e=.returned (.bool true)∧Below w.heap.size w w':=by
 have HK:Hid (Y1 w l base∧Y1 w l' base'):=⟨hk,hk'⟩;have HS:Hid (∀(i:Nat) (x y:Ez),l[i]?=some x→l'[i]?=some y→∀W v u,Zl W.heap.size W x v→Zl W.heap.size W y u→Calls Tryz.prog 18 #[v,u] W fun e w'=>e=.returned (.bool true)∧Below W.heap.size W w'):=hs
 have L:Hid (m=l.length∧m=l'.length):=⟨hm,hm'⟩;have N:Hid (Below w.heap.size w w):=Below.refl _ _;clear hk hk' hs hm hm'
 go_enter Tryz.func44,Tryz.ntmps44
 go_wp2
 go_loopw [5] (fun vi wr=>∃i:Nat,i≤m∧vi=.int .i64 (i:Int)∧Below w.heap.size w wr) (fun vi _=>m-(intOf vi).toNat)
 case atStart=>exact ⟨0,Nat.zero_le _,rfl,N.out⟩
 case round =>
  obtain ⟨i,hi,rfl,J⟩:=hrel;have H:Hid (Below w.heap.size w wr):=J;clear J
  by_cases hlt:i<m
  ·have U:(i:Int)<m:=by omega
   obtain ⟨x,R⟩:∃x,l[i]?=some x:=⟨l[i]'(by rw [←L.out.1];exact hlt),List.getElem?_eq_getElem (by rw [←L.out.1];exact hlt)⟩
   obtain ⟨y,T⟩:∃y,l'[i]?=some y:=⟨l'[i]'(by rw [←L.out.2];exact hlt),List.getElem?_eq_getElem (by rw [←L.out.2];exact hlt)⟩
   have A:Hid (Y1 wr l base∧Y1 wr l' base'):=⟨HK.out.1.below H.out,HK.out.2.below H.out⟩;obtain ⟨b,o,a1,a2,a3,a4,a5,a6,a7,rfl,D,I,Z,m1,V,X,m4⟩:=A.out.1 i x R;obtain ⟨b',o',c1,c2,c3,c4,c5,c6,c7,rfl,z,G,n0,n1,n2,Y,n4⟩:=A.out.2 i y T
   have HC:Hid (∀wx,Below wr.heap.size wr wx→Calls Tryz.prog 18 #[yp a1 a2 a3 a4 a5 a6 a7,yp c1 c2 c3 c4 c5 c6 c7] wx fun e w''=>e=.returned (.bool true)∧Below wr.heap.size wr w''):=fun wx hwx =>
    (HS.out i x y R T wx _ _ ((I.kept hwx).wide hwx.size) ((G.kept hwx).wide hwx.size)).mono fun e w'' h=>⟨h.1,hwx.trans (h.2.mono hwx.size)⟩
   have u0:=Zk (n:=wr.heap.size) Z D;have u1:=Zk (n:=wr.heap.size) m1 D;have u2:=Zk (n:=wr.heap.size) V D;have u3:=Zk (n:=wr.heap.size) X D;have u4:=Zk (n:=wr.heap.size) m4 D;have v0:=Zk (n:=wr.heap.size) n0 z;have v1:=Zk (n:=wr.heap.size) n1 z;have v2:=Zk (n:=wr.heap.size) n2 z;have v3:=Zk (n:=wr.heap.size) Y z;have v4:=Zk (n:=wr.heap.size) n4 z;clear Z m1 V X m4 n0 n1 n2 Y n4 I G R T A D z;have O:w.heap.size≤wr.heap.size:=H.out.size;go_wp2_with fail
   refine xU (n:=wr.heap.size) (w0:=wr) (Below.refl _ _) (by kernel_rfl) (by kernel_rfl) ?_
   iterate 8 (go_big_quiet_step (fail))
   go_big_quiet_step (exact Xc HC.out _)
   iterate 1 (go_big_quiet_step (fail))
   refine wpQuiet_nil ?_;rintro _ ⟨c,rfl⟩;have Q:Hid (Below w.heap.size w c.1):=H.out.trans (c.2.mono O);clear u0 u1 u2 u3 u4 v0 v1 v2 v3 v4;go_wp2
   exact ⟨⟨i+1,by omega,by go_num,Q.out⟩,by simp [intOf];omega⟩
  ·obtain rfl:i=m:=by omega
   have U:¬ (i:Int)<i:=by omega
   go_wp2
   go_ret
   exact ⟨rfl,H.out⟩
theorem uw:∀(N:Nat) (x y:Ez) (v u:Value) (w:World),qw x≤N→smE x y→Zl w.heap.size w x v→Zl w.heap.size w y u →
  Calls Tryz.prog 18 #[v,u] w fun e w'=>e=.returned (.bool true)∧Below w.heap.size w w'
 | 0,.mk k s n kids line,y,v,u,w,hd,_,_,_=>by rw [qw] at hd;omega
 | N+1,.mk k s n kids line,.mk k' s' n' kids' line',v,u,w,hd,hsm,hx,hy=>by
  rw [smE] at hsm;obtain ⟨rfl,rfl,rfl,X⟩:=hsm;obtain ⟨A,T⟩:=zas X;obtain ⟨base,I,rfl,hc,R,Y,ab,ae,G⟩:=hx.kid;obtain ⟨base',z,rfl,ad,L,-,-,-,D⟩:=hy.kid;obtain ⟨m,V⟩:∃m,m=kids.length:=⟨_,rfl⟩;rw [←A,←V];rw [←V] at hc;have af:m≤9223372036854775807:=by unfold maxLen at R;omega
  have O:Y1 w kids base:=fun i x h=>by
   obtain ⟨b,o,Z,a2,a3,a4,a5,a6,a7,e,hb,H,J,h⟩:=G i x h;exact ⟨b,o,Z,a2,a3,a4,a5,a6,a7,e,H,J,h⟩
  have U:Y1 w kids' base':=fun i x h=>by
   obtain ⟨b,o,Z,a2,a3,a4,a5,a6,a7,e,hb,H,J,h⟩:=D i x h;exact ⟨b,o,Z,a2,a3,a4,a5,a6,a7,e,H,J,h⟩
  have HC:Hid (∀W,Below w.heap.size w W→Calls Tryz.prog 44 #[.slice base m I,.slice base' m z] W fun e w'=>e=.returned (.bool true)∧Below W.heap.size W w'):=fun W hW =>
   VX kids kids' base base' m I z W V (V.trans A) af (O.below hW) (U.below hW) fun i x y hx hy W' v u h1 h2=>uw N x y v u W' (zbO hd hx) (T i x y hx hy) h1 h2
  have HB:Hid (Below w.heap.size w ((w.alloc (yW k s n base m I line)).alloc (yW k s n base' m z line'))):=((Below.refl _ w).alloc (Nat.le_refl _) _).alloc (by simp) _
  have cc:=HC.out _ HB.out;clear hx hy G D O U hc ad R L Y ab ae T A X V hd HC
  go_enter Tryz.func18,Tryz.ntmps18
  go_wp2_with fail
  refine cc.mono ?_;clear cc;rintro e w2 ⟨rfl,Q⟩;have aa:Hid (Below w.heap.size w w2):=HB.out.trans (Q.mono HB.out.size);clear Q;go_wp2
  exact bodyPost_ret (v:=.bool true) (by simp [results,Tryz.results18,go_sem]) rfl ⟨rfl,aa.out⟩
mutual
theorem zhw:∀x:Ex,qw (XO x)=zN x
 | .mk k s n kids line=>by rw [XO,qw,zN,zdC kids,Nat.add_comm]
theorem zdC:∀l:List Ex,dpL (yC l)=depthL l
 | []=>by rw [yC,dpL,depthL]
 | x::xs=>by rw [yC,dpL,depthL,zhw x,zdC xs]
end
end Go.Proofs.YtcphojjpapgblaaGreatDoor
