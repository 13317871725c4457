import Derived.Test.YtmbofhpmockmbaaGreatDoorMC33
import Derived.Test.YtmbofhpmockmbaaGreatDoorMC21
import Derived.Test.YtmbofhpmockmbaaGreatDoorMC4
import Derived.Test.YtmbofhpmockmbaaGreatDoorMC39
namespace Go.Proofs.YtmbofhpmockmbaaGreatDoor
open Go.RowKit Go.Shelf
theorem YE.wide {B B':Nat} {w:World} {x:Ez} {v:Value} (h:YE B w x v) (hB:B≤B'):YE B' w x v:=by
 induction h with
 | mk k s n kids line base cap b o us hs hn0 hn1 hbase hlen hc hm hcell hfive _ ih =>
  exact .mk k s n kids line base cap b o us hs hn0 hn1 (fun h=>⟨(hbase h).1,Nat.lt_of_lt_of_le (hbase h).2.1 hB,(hbase h).2.2⟩) hlen hc hm hcell hfive ih
def Yy {α:Type} (P:α→List Value→Prop) (sz B:Nat) (w:World) (l:List α) (base:Option Addr) (m cap:Nat):Prop :=
 m=l.length∧l.length≤cap∧cap≤maxLen∧∀i x,l[i]?=some x→∃b o c,base=some ⟨b,o,none⟩∧b<B∧b<w.heap.size∧c.length=sz∧P x c∧∀j u,c[j]?=some u→w.cell? ⟨b,o+i*sz+j,none⟩=some u
theorem Yy.kept {α:Type} {P P':α→List Value→Prop} {sz B:Nat} {w w':World} {l:List α} {base:Option Addr} {m cap:Nat} (h:Yy P sz B w l base m cap) (hb:Below B w w') (hP:∀x c,P x c→P' x c):Yy P' sz B w' l base m cap:=by
 obtain ⟨J,G,D,E⟩:=h;refine ⟨J,G,D,fun i x hx=>?_⟩
 obtain ⟨b,o,c,e,A,z,I,H,y⟩:=E i x hx;exact ⟨b,o,c,e,A,Nat.lt_of_lt_of_le z hb.size,I,hP x c H,fun j u hj=>by rw [World.cell?_of_block (hb.block b A)];exact y j u hj⟩
theorem Yy.wide {α:Type} {P P':α→List Value→Prop} {sz B B':Nat} {w:World} {l:List α} {base:Option Addr} {m cap:Nat} (h:Yy P sz B w l base m cap) (hB:B≤B') (hP:∀x c,P x c→P' x c):Yy P' sz B' w l base m cap:=by
 obtain ⟨J,G,A,D⟩:=h;refine ⟨J,G,A,fun i x hx=>?_⟩
 obtain ⟨b,o,c,e,E,z,I,H,y⟩:=D i x hx;exact ⟨b,o,c,e,Nat.lt_of_lt_of_le E hB,z,I,hP x c H,y⟩
inductive Sz where
 | mk (k:Int) (s:List UInt8) (es:List Ez) (body els:List Sz) (line:Int)
abbrev EzC (B:Nat) (w:World) (x:Ez) (c:List Value):Prop:=YE B w x (.agg c.toArray)
def YP (B:Nat) (w:World):Nat→Sz→List Value→Prop
 | 0,_,_=>False
 | f+1,.mk k s es body els line,c=>∃be me ce bb mb cb bl ml cl,c=[.int .i64 k,.string (za s),.slice be me ce,.slice bb mb cb,.slice bl ml cl,.int .i64 line]∧s.length≤100000000∧Yy (EzC B w) 5 B w es be me ce∧Yy (YP B w f) 6 B w body bb mb cb∧Yy (YP B w f) 6 B w els bl ml cl
theorem YP.kept {B:Nat} {w w':World} (hb:Below B w w'):∀(f:Nat) (x:Sz) (c:List Value),YP B w f x c→YP B w' f x c
 | 0,_,_,h=>h.elim
 | f+1,.mk k s es body els line,c,h=>by
  obtain ⟨A,e,L,D,K,I,H,E,y,M,G,o,z,J⟩:=h;exact ⟨A,e,L,D,K,I,H,E,y,M,G,o.kept hb fun x c h=>YE.kept h hb,z.kept hb (YP.kept hb f),J.kept hb (YP.kept hb f)⟩
theorem YP.wide {B B':Nat} {w:World} (hB:B≤B'):∀(f:Nat) (x:Sz) (c:List Value),YP B w f x c→YP B' w f x c
 | 0,_,_,h=>h.elim
 | f+1,.mk k s es body els line,c,h=>by
  obtain ⟨A,e,L,D,K,I,H,E,y,M,G,o,z,J⟩:=h;exact ⟨A,e,L,D,K,I,H,E,y,M,G,o.wide hB fun x c h=>YE.wide h hB,z.wide hB (YP.wide hB f),J.wide hB (YP.wide hB f)⟩
abbrev PmZ (x:List UInt8 × List UInt8) (c:List Value):Prop:=c=[.string (za x.1),.string (za x.2)]∧x.1.length≤100000000∧x.2.length≤100000000
structure Rz where
 name:List UInt8
 fields:List (List UInt8 × List UInt8)
 line:Int
structure Fz where
 name:List UInt8
 params:List (List UInt8 × List UInt8)
 result:List UInt8
 body:List Sz
 line:Int
structure Pz where
 recs:List Rz
 funs:List Fz
def vO (B:Nat) (w:World) (x:Rz) (c:List Value):Prop:=∃b m cap,c=[.string (za x.name),.slice b m cap,.int .i64 x.line]∧x.name.length≤100000000∧Yy PmZ 2 B w x.fields b m cap
def vP (B:Nat) (w:World) (f:Nat) (x:Fz) (c:List Value):Prop:=∃b m cap b2 m2 cap2,c=[.string (za x.name),.slice b m cap,.string (za x.result),.slice b2 m2 cap2,.int .i64 x.line]∧x.name.length≤100000000∧x.result.length≤100000000∧Yy PmZ 2 B w x.params b m cap∧Yy (YP B w f) 6 B w x.body b2 m2 cap2
def UP (B:Nat) (w:World) (f:Nat) (x:Pz) (v:Value):Prop:=∃b m cap b2 m2 cap2,v=.agg #[.slice b m cap,.slice b2 m2 cap2]∧Yy (vO B w) 3 B w x.recs b m cap∧Yy (vP B w f) 5 B w x.funs b2 m2 cap2
theorem vO.kept {B:Nat} {w w':World} (hb:Below B w w') (x:Rz) (c:List Value) (h:vO B w x c):vO B w' x c:=by
 obtain ⟨b,m,e,z,o,y⟩:=h;exact ⟨b,m,e,z,o,y.kept hb fun _ _ h=>h⟩
theorem vO.wide {B B':Nat} {w:World} (hB:B≤B') (x:Rz) (c:List Value) (h:vO B w x c):vO B' w x c:=by
 obtain ⟨b,m,e,z,o,y⟩:=h;exact ⟨b,m,e,z,o,y.wide hB fun _ _ h=>h⟩
theorem vP.kept {B:Nat} {w w':World} (hb:Below B w w') (f:Nat) (x:Fz) (c:List Value) (h:vP B w f x c):vP B w' f x c:=by
 obtain ⟨b,m,o,A,G,e,H,D,y,z,E⟩:=h;exact ⟨b,m,o,A,G,e,H,D,y,z.kept hb fun _ _ h=>h,E.kept hb (YP.kept hb f)⟩
theorem vP.wide {B B':Nat} {w:World} (hB:B≤B') (f:Nat) (x:Fz) (c:List Value) (h:vP B w f x c):vP B' w f x c:=by
 obtain ⟨b,m,o,A,G,e,H,D,y,z,E⟩:=h;exact ⟨b,m,o,A,G,e,H,D,y,z.wide hB fun _ _ h=>h,E.wide hB (YP.wide hB f)⟩
theorem UP.kept {B:Nat} {w w':World} (hb:Below B w w') {f:Nat} {x:Pz} {v:Value} (h:UP B w f x v):UP B w' f x v:=by
 obtain ⟨b,m,o,z,D,e,E,A,y⟩:=h;exact ⟨b,m,o,z,D,e,E,A.kept hb (vO.kept hb),y.kept hb (vP.kept hb f)⟩
theorem UP.wide {B B':Nat} {w:World} (hB:B≤B') {f:Nat} {x:Pz} {v:Value} (h:UP B w f x v):UP B' w f x v:=by
 obtain ⟨b,m,o,z,D,e,E,A,y⟩:=h;exact ⟨b,m,o,z,D,e,E,A.wide hB (vO.wide hB),y.wide hB (vP.wide hB f)⟩
def rgK (k:Int) (s:List UInt8) (n:Int) (m:Nat):Bool :=
 if k=1 then decide (0≤n)&&s==[]&&m==0
 else if k=2 then (n==0||n==1)&&s==[]&&m==0
 else if k=3 then YH s&&n==0&&m==0
 else if k=4 then xt s&&n==0&&m==0
 else if k=5 then xt s&&n==0
 else if k=11 then xt s&&n==0
 else if k=6 then (s==[45]||s==[33])&&n==0&&m==1
 else if k=7 then decide (0<levelOf s)&&n==0&&m==2
 else if k=8 then s==[]&&n==0&&m==2
 else if k=9 then xt s&&n==0&&m==1
 else if k=10 then s==[]&&n==0&&decide (0<m)
 else false
mutual
def rgE:Ez→Bool
 | .mk k s n kids _=>rgL kids&&rgK k s n kids.length
def rgL:List Ez→Bool
 | []=>true
 | x::xs=>rgE x&&rgL xs
end
mutual
def dpE:Ez→Nat
 | .mk _ _ _ kids _=>vA kids+1
def vA:List Ez→Nat
 | []=>0
 | x::xs=>max (dpE x) (vA xs)
end
def U8:List (List UInt8)→List UInt8
 | []=>[]
 | [t]=>t
 | t::u::r=>t++[44,32]++U8 (u::r)
def xN (x:Ez) (least:Nat) (t:List UInt8):List UInt8:=if lvE x<least then [40]++t++[41] else t
def txK (k:Int) (s:List UInt8) (n:Int) (kids:List Ez) (ts:List (List UInt8)):List UInt8 :=
 if k=1 then Lib.decDigits n.toNat
 else if k=2 then (if n=1 then [116,114,117,101] else [102,97,108,115,101])
 else if k=3 then ZY s
 else if k=4 then s
 else if k=5 then s++[40]++U8 ts++[41]
 else if k=6 then (match kids,ts with
  | a::_,t::_=>s++xN a 7 t
  | _,_=>[])
 else if k=7 then (match kids,ts with
  | a::b::_,t::u::_=>xN a (levelOf s) t++[32]++s++[32]++xN b (levelOf s+1) u
  | _,_=>[])
 else if k=8 then (match kids,ts with
  | a::_,t::u::_=>xN a 8 t++[91]++u++[93]
  | _,_=>[])
 else if k=9 then (match kids,ts with
  | a::_,t::_=>xN a 8 t++[46]++s
  | _,_=>[])
 else if k=10 then [91]++U8 ts++[93]
 else [110,101,119,32]++s++[40]++U8 ts++[41]
mutual
def txE:Ez→List UInt8
 | .mk k s n kids _=>txK k s n kids (txL kids)
def txL:List Ez→List (List UInt8)
 | []=>[]
 | x::xs=>txE x::txL xs
end
theorem Xy {l:List Ez} {d:Nat}:vA l≤d↔∀y∈l,dpE y≤d:=by
 induction l with
 | nil=>simp [vA]
 | cons x xs ih=>rw [vA,List.forall_mem_cons,←ih];omega
mutual
def nbE:Ez→Bool
 | .mk _ _ n kids _=>decide (n≤9223372036854775807)&&nbL kids
def nbL:List Ez→Bool
 | []=>true
 | x::xs=>nbE x&&nbL xs
end
end Go.Proofs.YtmbofhpmockmbaaGreatDoor
