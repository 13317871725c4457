import Derived.Test.YtpejpbbdgblbeaaGreatDoorMC13
import Derived.Test.YtpejpbbdgblbeaaGreatDoorMC39
import Derived.Test.YtpejpbbdgblbeaaGreatDoorMC6
import Derived.BigQuiet
namespace Go.Proofs.YtpejpbbdgblbeaaGreatDoor
open Go.RowKit Go.Shelf
set_option maxHeartbeats 16000000
set_option maxRecDepth 100000
def rgK (k:Int) (s:List UInt8) (n:Int) (m:Nat):Bool :=
 if k=1 then decide (0≤n)&&s==[]&&m==0
 else if k=2 then (n==0||n==1)&&s==[]&&m==0
 else if k=3 then Xw s&&n==0&&m==0
 else if k=4 then Y3 s&&n==0&&m==0
 else if k=5 then Y3 s&&n==0
 else if k=11 then Y3 s&&n==0
 else if k=6 then (s==[45]||s==[33])&&n==0&&m==1
 else if k=7 then decide (0<levelOf s)&&n==0&&m==2
 else if k=8 then s==[]&&n==0&&m==2
 else if k=9 then Y3 s&&n==0&&m==1
 else if k=10 then s==[]&&n==0&&decide (0<m)
 else false
mutual
def rgE:Ez→Bool
 | .mk k s n kids _=>rgL kids&&rgK k s n kids.length
def rgL:List Ez→Bool
 | []=>true
 | x::xs=>rgE x&&rgL xs
end
mutual
def dpE:Ez→Nat
 | .mk _ _ _ kids _=>dpL kids+1
def dpL:List Ez→Nat
 | []=>0
 | x::xs=>max (dpE x) (dpL xs)
end
def zcZ:List (List UInt8)→List UInt8
 | []=>[]
 | [t]=>t
 | t::u::r=>t++[44,32]++zcZ (u::r)
def VG (x:Ez) (least:Nat) (t:List UInt8):List UInt8:=if X7 x<least then [40]++t++[41] else t
def txK (k:Int) (s:List UInt8) (n:Int) (kids:List Ez) (ts:List (List UInt8)):List UInt8 :=
 if k=1 then Lib.decDigits n.toNat
 else if k=2 then (if n=1 then [116,114,117,101] else [102,97,108,115,101])
 else if k=3 then yg s
 else if k=4 then s
 else if k=5 then s++[40]++zcZ ts++[41]
 else if k=6 then (match kids,ts with
  | a::_,t::_=>s++VG a 7 t
  | _,_=>[])
 else if k=7 then (match kids,ts with
  | a::b::_,t::u::_=>VG a (levelOf s) t++[32]++s++[32]++VG b (levelOf s+1) u
  | _,_=>[])
 else if k=8 then (match kids,ts with
  | a::_,t::u::_=>VG a 8 t++[91]++u++[93]
  | _,_=>[])
 else if k=9 then (match kids,ts with
  | a::_,t::_=>VG a 8 t++[46]++s
  | _,_=>[])
 else if k=10 then [91]++zcZ ts++[93]
 else [110,101,119,32]++s++[40]++zcZ ts++[41]
mutual
def txE:Ez→List UInt8
 | .mk k s n kids _=>txK k s n kids (txL kids)
def txL:List Ez→List (List UInt8)
 | []=>[]
 | x::xs=>txE x::txL xs
end
theorem zgE {l:List Ez} {d:Nat}:dpL l≤d↔∀y∈l,dpE y≤d:=by
 induction l with
 | nil=>simp [dpL]
 | cons x xs ih=>rw [dpL,List.forall_mem_cons,←ih];omega
mutual
def nbE:Ez→Bool
 | .mk _ _ n kids _=>decide (n≤9223372036854775807)&&nbL kids
def nbL:List Ez→Bool
 | []=>true
 | x::xs=>nbE x&&nbL xs
end
theorem ze8 {k:Int} {s:List UInt8} {n:Int} {kids:List Ez} {line:Int} {N i:Nat} {y:Ez} (h:dpE (.mk k s n kids line)≤N+1) (hy:kids[i]?=some y):dpE y≤N:=by
 rw [dpE] at h;exact (zgE (d:=N)).1 (by omega) y (List.mem_of_getElem? hy)
mutual
def smE:Ez→Ez→Prop
 | .mk k s n kids _,.mk k' s' n' kids' _=>k=k'∧s=s'∧n=n'∧YN kids kids'
def YN:List Ez→List Ez→Prop
 | [],[]=>True
 | x::xs,y::ys=>smE x y∧YN xs ys
 | [],_::_=>False
 | _::_,[]=>False
end
theorem QQ:∀{l l':List Ez},YN l l'→l.length=l'.length∧∀(i:Nat) (x y:Ez),l[i]?=some x→l'[i]?=some y→smE x y
 | [],[],_=>⟨rfl,fun i x y hx=>by simp at hx⟩
 | x::xs,y::ys,h=>by
  rw [YN] at h;obtain ⟨z,o⟩:=QQ h.2;refine ⟨by simp [z],fun i a b ha hb=>?_⟩
  cases i with
  | zero =>
   simp only [List.getElem?_cons_zero,Option.some.injEq] at ha hb;subst ha hb;exact h.1
  | succ i=>exact o i a b (by simpa using ha) (by simpa using hb)
 | [],_::_,h=>by rw [YN] at h;exact h.elim
 | _::_,[],h=>by rw [YN] at h;exact h.elim
mutual
theorem ze9:∀x:Ez,smE x x
 | .mk k s n kids line=>by rw [smE];exact ⟨rfl,rfl,rfl,UC kids⟩
theorem UC:∀l:List Ez,YN l l
 | []=>by rw [YN];trivial
 | x::xs=>by rw [YN];exact ⟨ze9 x,UC xs⟩
end
def Y0 (w:World) (l:List Ez) (base:Option Addr):Prop:=∀(i:Nat) (x:Ez),l[i]?=some x→∃b o a1 a2 a3 a4 a5 a6 a7,base=some ⟨b,o,none⟩∧b<w.heap.size∧Zy w.heap.size w x (yz a1 a2 a3 a4 a5 a6 a7) ∧
 w.cell? ⟨b,o+i*5,none⟩=some (.int .i64 a1)∧w.cell? ⟨b,o+i*5+1,none⟩=some (.string (zb a2))∧w.cell? ⟨b,o+i*5+2,none⟩=some (.int .i64 a3)∧w.cell? ⟨b,o+i*5+3,none⟩=some (.slice a4 a5 a6)∧w.cell? ⟨b,o+i*5+4,none⟩=some (.int .i64 a7)
theorem Y0.below {w W:World} {l:List Ez} {base:Option Addr} (h:Y0 w l base) (hb:Below w.heap.size w W):Y0 W l base:=by
 intro i x D;obtain ⟨b,o,A,N,T,O,J,I,G,e,y,z,H,L,U,Q,R⟩:=h i x D;exact ⟨b,o,A,N,T,O,J,I,G,e,Nat.lt_of_lt_of_le y hb.size,(z.kept hb).wide hb.size,(hb.cell (p:=⟨b,o+i*5,none⟩) y).trans H,(hb.cell (p:=⟨b,o+i*5+1,none⟩) y).trans L,(hb.cell (p:=⟨b,o+i*5+2,none⟩) y).trans U,(hb.cell (p:=⟨b,o+i*5+3,none⟩) y).trans Q,(hb.cell (p:=⟨b,o+i*5+4,none⟩) y).trans R⟩
theorem VH (l l':List Ez) (base base':Option Addr) (m cap cap':Nat) (w:World) (hm:m=l.length) (hm':m=l'.length) (hmx:m≤9223372036854775807) (hk:Y0 w l base) (hk':Y0 w l' base')
  (hs:∀(i:Nat) (x y:Ez),l[i]?=some x→l'[i]?=some y→∀W v u,Zy W.heap.size W x v→Zy W.heap.size W y u→Calls Tryz.prog 20 #[v,u] W fun e w'=>e=.returned (.bool true)∧Below W.heap.size W w') :
  Calls Tryz.prog 46 #[.slice base m cap,.slice base' m cap'] w fun e w'=>e=.returned (.bool true)∧Below w.heap.size w w':=by
 have HK:Hid (Y0 w l base∧Y0 w l' base'):=⟨hk,hk'⟩;have HS:Hid (∀(i:Nat) (x y:Ez),l[i]?=some x→l'[i]?=some y→∀W v u,Zy W.heap.size W x v→Zy W.heap.size W y u→Calls Tryz.prog 20 #[v,u] W fun e w'=>e=.returned (.bool true)∧Below W.heap.size W w'):=hs
 have L:Hid (m=l.length∧m=l'.length):=⟨hm,hm'⟩;have N:Hid (Below w.heap.size w w):=Below.refl _ _;clear hk hk' hs hm hm'
 go_enter Tryz.func46,Tryz.ntmps46
 go_wp2
 go_loopw [5] (fun vi wr=>∃i:Nat,i≤m∧vi=.int .i64 (i:Int)∧Below w.heap.size w wr) (fun vi _=>m-(intOf vi).toNat)
 case atStart=>exact ⟨0,Nat.zero_le _,rfl,N.out⟩
 case round =>
  obtain ⟨i,hi,rfl,J⟩:=hrel;have H:Hid (Below w.heap.size w wr):=J;clear J
  by_cases hlt:i<m
  ·have U:(i:Int)<m:=by omega
   obtain ⟨x,R⟩:∃x,l[i]?=some x:=⟨l[i]'(by rw [←L.out.1];exact hlt),List.getElem?_eq_getElem (by rw [←L.out.1];exact hlt)⟩
   obtain ⟨y,Q⟩:∃y,l'[i]?=some y:=⟨l'[i]'(by rw [←L.out.2];exact hlt),List.getElem?_eq_getElem (by rw [←L.out.2];exact hlt)⟩
   have A:Hid (Y0 wr l base∧Y0 wr l' base'):=⟨HK.out.1.below H.out,HK.out.2.below H.out⟩;obtain ⟨b,o,a1,a2,a3,a4,a5,a6,a7,rfl,D,G,Y,Z,m2,m3,m4⟩:=A.out.1 i x R;obtain ⟨b',o',c1,c2,c3,c4,c5,c6,c7,rfl,z,I,n0,n1,n2,V,n4⟩:=A.out.2 i y Q
   have HC:Hid (∀wx,Below wr.heap.size wr wx→Calls Tryz.prog 20 #[yz a1 a2 a3 a4 a5 a6 a7,yz c1 c2 c3 c4 c5 c6 c7] wx fun e w''=>e=.returned (.bool true)∧Below wr.heap.size wr w''):=fun wx hwx =>
    (HS.out i x y R Q wx _ _ ((G.kept hwx).wide hwx.size) ((I.kept hwx).wide hwx.size)).mono fun e w'' h=>⟨h.1,hwx.trans (h.2.mono hwx.size)⟩
   have u0:=Zn (n:=wr.heap.size) Y D;have u1:=Zn (n:=wr.heap.size) Z D;have u2:=Zn (n:=wr.heap.size) m2 D;have u3:=Zn (n:=wr.heap.size) m3 D;have u4:=Zn (n:=wr.heap.size) m4 D;have v0:=Zn (n:=wr.heap.size) n0 z;have v1:=Zn (n:=wr.heap.size) n1 z;have v2:=Zn (n:=wr.heap.size) n2 z;have v3:=Zn (n:=wr.heap.size) V z;have v4:=Zn (n:=wr.heap.size) n4 z;clear Y Z m2 m3 m4 n0 n1 n2 V n4 G I R Q A D z;have T:w.heap.size≤wr.heap.size:=H.out.size;go_wp2_with fail
   refine xU (n:=wr.heap.size) (w0:=wr) (Below.refl _ _) (by kernel_rfl) (by kernel_rfl) ?_
   iterate 8 (go_big_quiet_step (fail))
   go_big_quiet_step (exact Xc HC.out _)
   iterate 1 (go_big_quiet_step (fail))
   refine wpQuiet_nil ?_;rintro _ ⟨c,rfl⟩;have O:Hid (Below w.heap.size w c.1):=H.out.trans (c.2.mono T);clear u0 u1 u2 u3 u4 v0 v1 v2 v3 v4;go_wp2
   exact ⟨⟨i+1,by omega,by go_num,O.out⟩,by simp [intOf];omega⟩
  ·obtain rfl:i=m:=by omega
   have U:¬ (i:Int)<i:=by omega
   go_wp2
   go_ret
   exact ⟨rfl,H.out⟩
theorem Qc:∀(N:Nat) (x y:Ez) (v u:Value) (w:World),dpE x≤N→smE x y→Zy w.heap.size w x v→Zy w.heap.size w y u →
  Calls Tryz.prog 20 #[v,u] w fun e w'=>e=.returned (.bool true)∧Below w.heap.size w w'
 | 0,.mk k s n kids line,y,v,u,w,hd,_,_,_=>by rw [dpE] at hd;omega
 | N+1,.mk k s n kids line,.mk k' s' n' kids' line',v,u,w,hd,hsm,hx,hy=>by
  rw [smE] at hsm;obtain ⟨rfl,rfl,rfl,U⟩:=hsm;obtain ⟨A,L⟩:=QQ U;obtain ⟨base,I,rfl,hc,Y,O,af,ab,G⟩:=hx.kid;obtain ⟨base',D,rfl,ae,Z,-,-,-,z⟩:=hy.kid;obtain ⟨m,V⟩:∃m,m=kids.length:=⟨_,rfl⟩;rw [←A,←V];rw [←V] at hc;have ad:m≤9223372036854775807:=by unfold maxLen at Y;omega
  have R:Y0 w kids base:=fun i x h=>by
   obtain ⟨b,o,a1,a2,a3,a4,a5,a6,a7,e,hb,J,H,h⟩:=G i x h;exact ⟨b,o,a1,a2,a3,a4,a5,a6,a7,e,J,H,h⟩
  have T:Y0 w kids' base':=fun i x h=>by
   obtain ⟨b,o,a1,a2,a3,a4,a5,a6,a7,e,hb,J,H,h⟩:=z i x h;exact ⟨b,o,a1,a2,a3,a4,a5,a6,a7,e,J,H,h⟩
  have HC:Hid (∀W,Below w.heap.size w W→Calls Tryz.prog 46 #[.slice base m I,.slice base' m D] W fun e w'=>e=.returned (.bool true)∧Below W.heap.size W w'):=fun W hW =>
   VH kids kids' base base' m I D W V (V.trans A) ad (R.below hW) (T.below hW) fun i x y hx hy W' v u h1 h2=>Qc N x y v u W' (ze8 hd hx) (L i x y hx hy) h1 h2
  have HB:Hid (Below w.heap.size w ((w.alloc (YD k s n base m I line)).alloc (YD k s n base' m D line'))):=((Below.refl _ w).alloc (Nat.le_refl _) _).alloc (by simp) _
  have cc:=HC.out _ HB.out;clear hx hy G z R T hc ae Y Z O af ab L A U V hd HC
  go_enter Tryz.func20,Tryz.ntmps20
  go_wp2_with fail
  refine cc.mono ?_;clear cc;rintro e w2 ⟨rfl,Q⟩;have aa:Hid (Below w.heap.size w w2):=HB.out.trans (Q.mono HB.out.size);clear Q;go_wp2
  exact bodyPost_ret (v:=.bool true) (by simp [results,Tryz.results20,go_sem]) rfl ⟨rfl,aa.out⟩
end Go.Proofs.YtpejpbbdgblbeaaGreatDoor
