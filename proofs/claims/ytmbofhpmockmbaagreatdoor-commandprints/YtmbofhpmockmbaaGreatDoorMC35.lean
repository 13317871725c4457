import Derived.Test.YtmbofhpmockmbaaGreatDoorMC34
import Derived.Test.YtmbofhpmockmbaaGreatDoorMC22
import Derived.Test.YtmbofhpmockmbaaGreatDoorMC4
import Derived.Test.YtmbofhpmockmbaaGreatDoorMC40
namespace Go.Proofs.YtmbofhpmockmbaaGreatDoor
open Go.RowKit Go.Shelf
theorem Yx.wide {B B':Nat} {w:World} {x:Ez} {v:Value} (h:Yx B w x v) (hB:B≤B'):Yx B' w x v:=by
 induction h with
 | mk k s n kids line base cap b o us hs hn0 hn1 hbase hlen hc hm hcell hfive _ ih =>
  exact .mk k s n kids line base cap b o us hs hn0 hn1 (fun h=>⟨(hbase h).1,Nat.lt_of_lt_of_le (hbase h).2.1 hB,(hbase h).2.2⟩) hlen hc hm hcell hfive ih
def Yr {α:Type} (P:α→List Value→Prop) (sz B:Nat) (w:World) (l:List α) (base:Option Addr) (m cap:Nat):Prop :=
 m=l.length∧l.length≤cap∧cap≤maxLen∧∀i x,l[i]?=some x→∃b o c,base=some ⟨b,o,none⟩∧b<B∧b<w.heap.size∧c.length=sz∧P x c∧∀j u,c[j]?=some u→w.cell? ⟨b,o+i*sz+j,none⟩=some u
theorem Yr.kept {α:Type} {P P':α→List Value→Prop} {sz B:Nat} {w w':World} {l:List α} {base:Option Addr} {m cap:Nat} (h:Yr P sz B w l base m cap) (hb:Below B w w') (hP:∀x c,P x c→P' x c):Yr P' sz B w' l base m cap:=by
 obtain ⟨J,E,D,H⟩:=h;refine ⟨J,E,D,fun i x hx=>?_⟩
 obtain ⟨b,o,c,e,A,z,I,G,y⟩:=H i x hx;exact ⟨b,o,c,e,A,Nat.lt_of_lt_of_le z hb.size,I,hP x c G,fun j u hj=>by rw [World.cell?_of_block (hb.block b A)];exact y j u hj⟩
theorem Yr.wide {α:Type} {P P':α→List Value→Prop} {sz B B':Nat} {w:World} {l:List α} {base:Option Addr} {m cap:Nat} (h:Yr P sz B w l base m cap) (hB:B≤B') (hP:∀x c,P x c→P' x c):Yr P' sz B' w l base m cap:=by
 obtain ⟨I,D,A,G⟩:=h;refine ⟨I,D,A,fun i x hx=>?_⟩
 obtain ⟨b,o,c,e,J,z,H,E,y⟩:=G i x hx;exact ⟨b,o,c,e,Nat.lt_of_lt_of_le J hB,z,H,hP x c E,y⟩
inductive Sz where
 | mk (k:Int) (s:List UInt8) (es:List Ez) (body els:List Sz) (line:Int)
abbrev EzC (B:Nat) (w:World) (x:Ez) (c:List Value):Prop:=Yx B w x (.agg c.toArray)
def YG (B:Nat) (w:World):Nat→Sz→List Value→Prop
 | 0,_,_=>False
 | f+1,.mk k s es body els line,c=>∃be me ce bb mb cb bl ml cl,c=[.int .i64 k,.string (za s),.slice be me ce,.slice bb mb cb,.slice bl ml cl,.int .i64 line]∧s.length≤100000000∧Yr (EzC B w) 5 B w es be me ce∧Yr (YG B w f) 6 B w body bb mb cb∧Yr (YG B w f) 6 B w els bl ml cl
theorem YG.kept {B:Nat} {w w':World} (hb:Below B w w'):∀(f:Nat) (x:Sz) (c:List Value),YG B w f x c→YG B w' f x c
 | 0,_,_,h=>h.elim
 | f+1,.mk k s es body els line,c,h=>by
  obtain ⟨D,o,J,E,I,H,A,L,M,K,y,e,G,z⟩:=h;exact ⟨D,o,J,E,I,H,A,L,M,K,y,e.kept hb fun x c h=>Yx.kept h hb,G.kept hb (YG.kept hb f),z.kept hb (YG.kept hb f)⟩
theorem YG.wide {B B':Nat} {w:World} (hB:B≤B'):∀(f:Nat) (x:Sz) (c:List Value),YG B w f x c→YG B' w f x c
 | 0,_,_,h=>h.elim
 | f+1,.mk k s es body els line,c,h=>by
  obtain ⟨D,o,J,E,I,H,A,L,M,K,y,e,G,z⟩:=h;exact ⟨D,o,J,E,I,H,A,L,M,K,y,e.wide hB fun x c h=>Yx.wide h hB,G.wide hB (YG.wide hB f),z.wide hB (YG.wide hB f)⟩
abbrev PmZ (x:List UInt8 × List UInt8) (c:List Value):Prop:=c=[.string (za x.1),.string (za x.2)]∧x.1.length≤100000000∧x.2.length≤100000000
structure Rz where
 name:List UInt8
 fields:List (List UInt8 × List UInt8)
 line:Int
structure Fz where
 name:List UInt8
 params:List (List UInt8 × List UInt8)
 result:List UInt8
 body:List Sz
 line:Int
structure Pz where
 recs:List Rz
 funs:List Fz
def vy (B:Nat) (w:World) (x:Rz) (c:List Value):Prop:=∃b m cap,c=[.string (za x.name),.slice b m cap,.int .i64 x.line]∧x.name.length≤100000000∧Yr PmZ 2 B w x.fields b m cap
def vz (B:Nat) (w:World) (f:Nat) (x:Fz) (c:List Value):Prop:=∃b m cap b2 m2 cap2,c=[.string (za x.name),.slice b m cap,.string (za x.result),.slice b2 m2 cap2,.int .i64 x.line]∧x.name.length≤100000000∧x.result.length≤100000000∧Yr PmZ 2 B w x.params b m cap∧Yr (YG B w f) 6 B w x.body b2 m2 cap2
def Uw (B:Nat) (w:World) (f:Nat) (x:Pz) (v:Value):Prop:=∃b m cap b2 m2 cap2,v=.agg #[.slice b m cap,.slice b2 m2 cap2]∧Yr (vy B w) 3 B w x.recs b m cap∧Yr (vz B w f) 5 B w x.funs b2 m2 cap2
theorem vy.kept {B:Nat} {w w':World} (hb:Below B w w') (x:Rz) (c:List Value) (h:vy B w x c):vy B w' x c:=by
 obtain ⟨b,m,e,z,y,o⟩:=h;exact ⟨b,m,e,z,y,o.kept hb fun _ _ h=>h⟩
theorem vy.wide {B B':Nat} {w:World} (hB:B≤B') (x:Rz) (c:List Value) (h:vy B w x c):vy B' w x c:=by
 obtain ⟨b,m,e,z,y,o⟩:=h;exact ⟨b,m,e,z,y,o.wide hB fun _ _ h=>h⟩
theorem vz.kept {B:Nat} {w w':World} (hb:Below B w w') (f:Nat) (x:Fz) (c:List Value) (h:vz B w f x c):vz B w' f x c:=by
 obtain ⟨b,m,o,G,z,e,H,A,y,E,D⟩:=h;exact ⟨b,m,o,G,z,e,H,A,y,E.kept hb fun _ _ h=>h,D.kept hb (YG.kept hb f)⟩
theorem vz.wide {B B':Nat} {w:World} (hB:B≤B') (f:Nat) (x:Fz) (c:List Value) (h:vz B w f x c):vz B' w f x c:=by
 obtain ⟨b,m,o,G,z,e,H,A,y,E,D⟩:=h;exact ⟨b,m,o,G,z,e,H,A,y,E.wide hB fun _ _ h=>h,D.wide hB (YG.wide hB f)⟩
theorem Uw.kept {B:Nat} {w w':World} (hb:Below B w w') {f:Nat} {x:Pz} {v:Value} (h:Uw B w f x v):Uw B w' f x v:=by
 obtain ⟨b,m,o,D,z,e,E,A,y⟩:=h;exact ⟨b,m,o,D,z,e,E,A.kept hb (vy.kept hb),y.kept hb (vz.kept hb f)⟩
theorem Uw.wide {B B':Nat} {w:World} (hB:B≤B') {f:Nat} {x:Pz} {v:Value} (h:Uw B w f x v):Uw B' w f x v:=by
 obtain ⟨b,m,o,D,z,e,E,A,y⟩:=h;exact ⟨b,m,o,D,z,e,E,A.wide hB (vy.wide hB),y.wide hB (vz.wide hB f)⟩
def rgK (k:Int) (s:List UInt8) (n:Int) (m:Nat):Bool :=
 if k=1 then decide (0≤n)&&s==[]&&m==0
 else if k=2 then (n==0||n==1)&&s==[]&&m==0
 else if k=3 then YA s&&n==0&&m==0
 else if k=4 then xg s&&n==0&&m==0
 else if k=5 then xg s&&n==0
 else if k=11 then xg s&&n==0
 else if k=6 then (s==[45]||s==[33])&&n==0&&m==1
 else if k=7 then decide (0<levelOf s)&&n==0&&m==2
 else if k=8 then s==[]&&n==0&&m==2
 else if k=9 then xg s&&n==0&&m==1
 else if k=10 then s==[]&&n==0&&decide (0<m)
 else false
mutual
def rgE:Ez→Bool
 | .mk k s n kids _=>rgL kids&&rgK k s n kids.length
def rgL:List Ez→Bool
 | []=>true
 | x::xs=>rgE x&&rgL xs
end
mutual
def dpE:Ez→Nat
 | .mk _ _ _ kids _=>X5 kids+1
def X5:List Ez→Nat
 | []=>0
 | x::xs=>max (dpE x) (X5 xs)
end
def UQ:List (List UInt8)→List UInt8
 | []=>[]
 | [t]=>t
 | t::u::r=>t++[44,32]++UQ (u::r)
def xC (x:Ez) (least:Nat) (t:List UInt8):List UInt8:=if lvE x<least then [40]++t++[41] else t
def txK (k:Int) (s:List UInt8) (n:Int) (kids:List Ez) (ts:List (List UInt8)):List UInt8 :=
 if k=1 then Lib.decDigits n.toNat
 else if k=2 then (if n=1 then [116,114,117,101] else [102,97,108,115,101])
 else if k=3 then ZV s
 else if k=4 then s
 else if k=5 then s++[40]++UQ ts++[41]
 else if k=6 then (match kids,ts with
  | a::_,t::_=>s++xC a 7 t
  | _,_=>[])
 else if k=7 then (match kids,ts with
  | a::b::_,t::u::_=>xC a (levelOf s) t++[32]++s++[32]++xC b (levelOf s+1) u
  | _,_=>[])
 else if k=8 then (match kids,ts with
  | a::_,t::u::_=>xC a 8 t++[91]++u++[93]
  | _,_=>[])
 else if k=9 then (match kids,ts with
  | a::_,t::_=>xC a 8 t++[46]++s
  | _,_=>[])
 else if k=10 then [91]++UQ ts++[93]
 else [110,101,119,32]++s++[40]++UQ ts++[41]
mutual
def txE:Ez→List UInt8
 | .mk k s n kids _=>txK k s n kids (txL kids)
def txL:List Ez→List (List UInt8)
 | []=>[]
 | x::xs=>txE x::txL xs
end
theorem Xo {l:List Ez} {d:Nat}:X5 l≤d↔∀y∈l,dpE y≤d:=by
 induction l with
 | nil=>simp [X5]
 | cons x xs ih=>rw [X5,List.forall_mem_cons,←ih];omega
mutual
def nbE:Ez→Bool
 | .mk _ _ n kids _=>decide (n≤9223372036854775807)&&nbL kids
def nbL:List Ez→Bool
 | []=>true
 | x::xs=>nbE x&&nbL xs
end
end Go.Proofs.YtmbofhpmockmbaaGreatDoor
