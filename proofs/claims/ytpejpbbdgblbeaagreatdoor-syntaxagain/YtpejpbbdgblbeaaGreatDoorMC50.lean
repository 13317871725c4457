import Derived.Test.YtpejpbbdgblbeaaGreatDoorMC45
import Derived.Test.YtpejpbbdgblbeaaGreatDoorMC31
import Derived.Test.YtpejpbbdgblbeaaGreatDoorMC35
namespace Go.Proofs.YtpejpbbdgblbeaaGreatDoor
open Go.RowKit Go.Shelf
mutual
def zcm:Ez→List Int
 | .mk _ _ _ kids line=>line::UY kids
def UY:List Ez→List Int
 | []=>[]
 | x::xs=>zcm x++UY xs
end
abbrev zjW (l:List Int):List Value:=l.map fun x=>Value.int .i64 x
theorem Zr.near {α:Type} {P P':α→List Value→Prop} {sz:Nat} {w W:World} {l:List α} {base:Option Addr} {m cap:Nat} (h:Zr P sz w.heap.size w l base m cap) (hb:Below w.heap.size w W) (hP:∀x c,P x c→P' x c):Zr P' sz W.heap.size W l base m cap:=(h.kept hb hP).wide hb.size fun _ _ h=>h
theorem XP (f:Nat) (x y:Pz) (v v':Value) (w:World) (Q:xJ w.heap.size w f x v) (N:xJ w.heap.size w f y v') (hs:SmP x y) :
  Calls Tryz.prog 10 #[v,v'] w fun e w'=>e=.returned (.bool true)∧Below w.heap.size w w':=by
 obtain ⟨b,m,af,b2,m2,aa,rfl,Y,V⟩:=Q;obtain ⟨b',m',ae,ah,m2',T,rfl,r2,f2⟩:=N;obtain rfl:m=m':=by have:=Y.1;have:=r2.1;have:=hs.rl;omega
 obtain rfl:m2=m2':=by have:=V.1;have:=f2.1;have:=hs.fl;omega
 refine UT b b2 b' ah m af m2 aa ae T w (by have:=Y.2.1;have:=Y.2.2.1;have:=Y.1;unfold maxLen at *;omega) (by have:=V.2.1;have:=V.2.2.1;have:=V.1;unfold maxLen at *;omega) (fun i hi W hW=>?_) (fun i hi W hW=>?_)
 ·have k1:=Y.near hW fun x c h=>Xk.wide hW.size x c (Xk.kept hW x c h)
  have k2:=r2.near hW fun x c h=>Xk.wide hW.size x c (Xk.kept hW x c h)
  have Q:x.recs[i]?=some (x.recs[i]'(by have:=Y.1;omega)):=List.getElem?_eq_getElem _
  have N:y.recs[i]?=some (y.recs[i]'(by have:=r2.1;omega)):=List.getElem?_eq_getElem _
  obtain ⟨bb,o,c,e1,O,-,-,hp,J⟩:=k1.2.2.2 i _ Q;obtain ⟨U,o',c',R,A,-,-,L,z⟩:=k2.2.2.2 i _ N;obtain ⟨bf,mf,cf,rfl,-,hf⟩:=hp;obtain ⟨I,D,G,rfl,-,H⟩:=L;obtain ⟨n1,n2⟩:=hs.r i _ _ Q N;refine ⟨bb,o,_,bf,mf,cf,U,o',I,D,G,e1,R,O,A,J 0 _ rfl,J 1 _ rfl,?_,z 1 _ rfl,fun wx hwx=>?_⟩
  ·rw [n1];exact z 0 _ rfl
  ·rw [←n2] at H
   exact (vw _ bf I mf D cf G wx (hf.near hwx fun _ _ h=>h) (H.near hwx fun _ _ h=>h)).mono fun e w'' h=>⟨h.1,hwx.trans (h.2.mono hwx.size)⟩
 ·have k1:=V.near hW fun x c h=>Xl.wide hW.size f x c (Xl.kept hW f x c h)
  have k2:=f2.near hW fun x c h=>Xl.wide hW.size f x c (Xl.kept hW f x c h)
  have Q:x.funs[i]?=some (x.funs[i]'(by have:=V.1;omega)):=List.getElem?_eq_getElem _
  have N:y.funs[i]?=some (y.funs[i]'(by have:=f2.1;omega)):=List.getElem?_eq_getElem _
  obtain ⟨bb,o,c,e1,O,-,-,hp,J⟩:=k1.2.2.2 i _ Q;obtain ⟨U,o',c',R,A,-,-,L,z⟩:=k2.2.2.2 i _ N;obtain ⟨bf,mf,cf,bg,mg,cg,rfl,-,-,hf,hg⟩:=hp;obtain ⟨I,D,G,ab,Z,ad,rfl,-,-,H,ag⟩:=L;obtain ⟨n1,n2,n3,n4⟩:=hs.f i _ _ Q N;refine ⟨bb,o,_,bf,mf,cf,_,bg,mg,cg,_,U,o',I,D,G,ab,Z,ad,_,e1,R,O,A,J 0 _ rfl,J 1 _ rfl,J 2 _ rfl,J 3 _ rfl,J 4 _ rfl,?_,z 1 _ rfl,?_,z 3 _ rfl,z 4 _ rfl,fun wx hwx=>?_,fun wx hwx=>?_⟩
  ·rw [n1];exact z 0 _ rfl
  ·rw [n2];exact z 2 _ rfl
  ·rw [←n3] at H
   exact vw _ bf I mf D cf G wx (hf.near hwx fun _ _ h=>h) (H.near hwx fun _ _ h=>h)
  ·exact qD f _ _ bg ab mg Z cg ad wx (hg.near hwx fun x c h=>ZW.wide hwx.size f x c (ZW.kept hwx f x c h)) (ag.near hwx fun x c h=>ZW.wide hwx.size f x c (ZW.kept hwx f x c h)) n4
mutual
def zcn:Sz→List Int
 | .mk _ _ es body els line=>line::(UY es++(vy body++vy els))
def vy:List Sz→List Int
 | []=>[]
 | x::xs=>zcn x++vy xs
end
mutual
def dpS:Sz→Nat
 | .mk _ _ es body els _=>max (dpL es) (max (zdZ body) (zdZ els))+1
def zdZ:List Sz→Nat
 | []=>0
 | x::xs=>max (dpS x) (zdZ xs)
end
end Go.Proofs.YtpejpbbdgblbeaaGreatDoor
