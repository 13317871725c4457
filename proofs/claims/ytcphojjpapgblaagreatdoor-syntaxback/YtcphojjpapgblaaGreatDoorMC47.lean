import Derived.Test.YtcphojjpapgblaaGreatDoorMC41
import Derived.Test.YtcphojjpapgblaaGreatDoorMC48
namespace Go.Proofs.YtcphojjpapgblaaGreatDoor
open Go.RowKit Go.Shelf
mutual
def zcU:Ez→List Int
 | .mk _ _ _ kids line=>line::qp kids
def qp:List Ez→List Int
 | []=>[]
 | x::xs=>zcU x++qp xs
end
abbrev zkm (l:List Int):List Value:=l.map fun x=>Value.int .i64 x
theorem Zj.near {α:Type} {P P':α→List Value→Prop} {sz:Nat} {w W:World} {l:List α} {base:Option Addr} {m cap:Nat} (h:Zj P sz w.heap.size w l base m cap) (hb:Below w.heap.size w W) (hP:∀x c,P x c→P' x c):Zj P' sz W.heap.size W l base m cap:=(h.kept hb hP).wide hb.size fun _ _ h=>h
theorem Ua (f:Nat) (x y:Pz) (v v':Value) (w:World) (R:Xn w.heap.size w f x v) (T:Xn w.heap.size w f y v') (hs:SmP x y) :
  Calls Tryz.prog 8 #[v,v'] w fun e w'=>e=.returned (.bool true)∧Below w.heap.size w w':=by
 obtain ⟨b,m,af,b2,m2,ad,rfl,X,V⟩:=R;obtain ⟨b',m',Z,ah,m2',O,rfl,r2,f2⟩:=T;obtain rfl:m=m':=by have:=X.1;have:=r2.1;have:=hs.rl;omega
 obtain rfl:m2=m2':=by have:=V.1;have:=f2.1;have:=hs.fl;omega
 refine qo b b2 b' ah m af m2 ad Z O w (by have:=X.2.1;have:=X.2.2.1;have:=X.1;unfold maxLen at *;omega) (by have:=V.2.1;have:=V.2.2.1;have:=V.1;unfold maxLen at *;omega) (fun i hi W hW=>?_) (fun i hi W hW=>?_)
 ·have k1:=X.near hW fun x c h=>xD.wide hW.size x c (xD.kept hW x c h)
  have k2:=r2.near hW fun x c h=>xD.wide hW.size x c (xD.kept hW x c h)
  have R:x.recs[i]?=some (x.recs[i]'(by have:=X.1;omega)):=List.getElem?_eq_getElem _
  have T:y.recs[i]?=some (y.recs[i]'(by have:=r2.1;omega)):=List.getElem?_eq_getElem _
  obtain ⟨bb,o,c,e1,N,-,-,hp,J⟩:=k1.2.2.2 i _ R;obtain ⟨U,o',c',Q,G,-,-,L,z⟩:=k2.2.2.2 i _ T;obtain ⟨Y,mf,cf,rfl,-,hf⟩:=hp;obtain ⟨H,D,A,rfl,-,I⟩:=L;obtain ⟨n1,n2⟩:=hs.r i _ _ R T;refine ⟨bb,o,_,Y,mf,cf,U,o',H,D,A,e1,Q,N,G,J 0 _ rfl,J 1 _ rfl,?_,z 1 _ rfl,fun wx hwx=>?_⟩
  ·rw [n1];exact z 0 _ rfl
  ·rw [←n2] at I
   exact (vv _ Y H mf D cf A wx (hf.near hwx fun _ _ h=>h) (I.near hwx fun _ _ h=>h)).mono fun e w'' h=>⟨h.1,hwx.trans (h.2.mono hwx.size)⟩
 ·have k1:=V.near hW fun x c h=>xE.wide hW.size f x c (xE.kept hW f x c h)
  have k2:=f2.near hW fun x c h=>xE.wide hW.size f x c (xE.kept hW f x c h)
  have R:x.funs[i]?=some (x.funs[i]'(by have:=V.1;omega)):=List.getElem?_eq_getElem _
  have T:y.funs[i]?=some (y.funs[i]'(by have:=f2.1;omega)):=List.getElem?_eq_getElem _
  obtain ⟨bb,o,c,e1,N,-,-,hp,J⟩:=k1.2.2.2 i _ R;obtain ⟨U,o',c',Q,G,-,-,L,z⟩:=k2.2.2.2 i _ T;obtain ⟨Y,mf,cf,bg,mg,cg,rfl,-,-,hf,hg⟩:=hp;obtain ⟨H,D,A,ae,ab,aa,rfl,-,-,I,ag⟩:=L;obtain ⟨n1,n2,n3,n4⟩:=hs.f i _ _ R T;refine ⟨bb,o,_,Y,mf,cf,_,bg,mg,cg,_,U,o',H,D,A,ae,ab,aa,_,e1,Q,N,G,J 0 _ rfl,J 1 _ rfl,J 2 _ rfl,J 3 _ rfl,J 4 _ rfl,?_,z 1 _ rfl,?_,z 3 _ rfl,z 4 _ rfl,fun wx hwx=>?_,fun wx hwx=>?_⟩
  ·rw [n1];exact z 0 _ rfl
  ·rw [n2];exact z 2 _ rfl
  ·rw [←n3] at I
   exact vv _ Y H mf D cf A wx (hf.near hwx fun _ _ h=>h) (I.near hwx fun _ _ h=>h)
  ·exact qS f _ _ bg ae mg ab cg aa wx (hg.near hwx fun x c h=>ZE.wide hwx.size f x c (ZE.kept hwx f x c h)) (ag.near hwx fun x c h=>ZE.wide hwx.size f x c (ZE.kept hwx f x c h)) n4
mutual
def zcV:Sz→List Int
 | .mk _ _ es body els line=>line::(qp es++(vw body++vw els))
def vw:List Sz→List Int
 | []=>[]
 | x::xs=>zcV x++vw xs
end
mutual
def dpS:Sz→Nat
 | .mk _ _ es body els _=>max (dpL es) (max (zeC body) (zeC els))+1
def zeC:List Sz→Nat
 | []=>0
 | x::xs=>max (dpS x) (zeC xs)
end
end Go.Proofs.YtcphojjpapgblaaGreatDoor
